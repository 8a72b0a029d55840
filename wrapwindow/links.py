"""The calls: each takes the numbers handed in and gives back the numbers answered."""

from wrapwindow.item import is_item
from wrapwindow.link import Link
from wrapwindow.parameters import are_in_range

LINK_LIMIT = 4
ITEM_LIMIT = 120
LOWEST_CHANGE = -9999
HIGHEST_CHANGE = 99999

OUT_OF_RANGE = -1
NO_LINK = -2
NO_ITEM = -3
NO_PACKET = -5
NOT_AWAITED = -6
FULL = -8


def new_link(links, arguments):
    w = arguments[0]
    m = arguments[1]
    k = arguments[2]
    r = arguments[3]
    o = arguments[4]
    if not are_in_range(w, m, k, r, o):
        return [OUT_OF_RANGE]
    if len(links) >= LINK_LIMIT:
        return [FULL]
    link = Link(w, m, k, r, o)
    links.append(link)
    return [len(links) - 1, 1 if link.safe else 0]


def send_item(link, arguments):
    item = arguments[0]
    if not is_item(item):
        return [NO_ITEM]
    number = len(link.sender.all_items)
    if number >= ITEM_LIMIT:
        return [FULL]
    link.sender.add_item(item)
    return [number, link.sender.fill_window()]


def retransmit(link, arguments):
    number = arguments[0]
    if not link.sender.awaits_acknowledgement(number):
        return [NOT_AWAITED]
    link.sender.send_frame(number)
    return [1 if link.sender.has_content(number) else 0]


def deliver_frame(link, arguments):
    refusal = refused_delivery(link.frames, arguments)
    if refusal:
        return refusal
    delivered_before = len(link.receiver.delivered)
    status = link.receiver.receive_frame(taken_packet(link.frames, arguments))
    return [status, len(link.receiver.delivered) - delivered_before]


def lose_frame(link, arguments):
    return lose_packet(link.frames, arguments)


def corrupt_frame(link, arguments):
    return corrupt_packet(link.frames, arguments)


def send_ack(link, arguments):
    fields = link.receiver.ack_fields()
    link.acks.send(fields)
    return [len(fields)] + fields


def deliver_ack(link, arguments):
    refusal = refused_delivery(link.acks, arguments)
    if refusal:
        return refusal
    status = link.sender.receive_ack(taken_packet(link.acks, arguments))
    link.sender.advance_base()
    sent = link.sender.fill_window()
    return [status, link.sender.base, sent]


def lose_ack(link, arguments):
    return lose_packet(link.acks, arguments)


def corrupt_ack(link, arguments):
    return corrupt_packet(link.acks, arguments)


def list_frames(link, arguments):
    return packet_list(link.frames)


def refused_delivery(channel, arguments):
    if arguments[1] < 0 or arguments[1] > 1:
        return [OUT_OF_RANGE]
    if not channel.holds(arguments[0]):
        return [NO_PACKET]
    return []


def taken_packet(channel, arguments):
    packet = channel.packet_at(arguments[0])
    if arguments[1] == 0:
        channel.lose(arguments[0])
    return packet


def lose_packet(channel, arguments):
    if not channel.holds(arguments[0]):
        return [NO_PACKET]
    channel.lose(arguments[0])
    return [0]


def corrupt_packet(channel, arguments):
    if not channel.holds(arguments[0]):
        return [NO_PACKET]
    packet = channel.packet_at(arguments[0])
    place = arguments[1]
    number = arguments[2]
    if not packet.has_place(place) or number < LOWEST_CHANGE or number > HIGHEST_CHANGE:
        return [OUT_OF_RANGE]
    packet.change(place, number)
    return [0]


def packet_list(channel):
    numbers = [len(channel.packets)]
    for packet in channel.packets:
        numbers.append(len(packet.fields) + 1)
        numbers.extend(packet.fields)
        numbers.append(packet.checksum)
    return numbers


# How many plain numbers each call has; only send_item has a list behind them.
ARGUMENT_COUNTS = (5, 1, 2, 3, 2, 4, 1, 3, 2, 4, 1)
SEND_ITEM = 1

# The calls on one link, which is looked up ahead of them, and those on all links.
LINK_CALLS = {
    1: send_item,
    2: retransmit,
    3: deliver_frame,
    4: lose_frame,
    5: corrupt_frame,
    6: send_ack,
    7: deliver_ack,
    8: lose_ack,
    9: corrupt_ack,
    10: list_frames,
}
SESSION_CALLS = {
    0: new_link,
}


def answers(calls):
    links = []
    results = []
    place = 0
    while place < len(calls):
        call_number = calls[place]
        end = place + 1 + ARGUMENT_COUNTS[call_number]
        arguments = calls[place + 1:end]
        if call_number == SEND_ITEM:
            row_start = end + 1
            end = row_start + calls[end]
            arguments.append(calls[row_start:end])
        answer = answer_call(links, call_number, arguments)
        results.append(len(answer))
        results.extend(answer)
        place = end
    return results


def answer_call(links, call_number, arguments):
    if call_number in SESSION_CALLS:
        session_call = SESSION_CALLS[call_number]
        return session_call(links, arguments)
    link_number = arguments[0]
    if link_number < 0 or link_number >= len(links):
        return [NO_LINK]
    link_call = LINK_CALLS[call_number]
    return link_call(links[link_number], arguments[1:])
