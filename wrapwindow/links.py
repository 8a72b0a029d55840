"""The calls: each takes the numbers handed in and gives back the numbers answered."""

from wrapwindow.call_numbers import SEND_ITEM
from wrapwindow.failure import failure_steps
from wrapwindow.item import is_item
from wrapwindow.link import Link
from wrapwindow.parameters import NO_CONDITION, are_in_range, violated_condition

LINK_LIMIT = 4
ITEM_LIMIT = 120
ROUND_LIMIT = 121
HIGHEST_TIME_LIMIT = 1000
LOWEST_CHANGE = -9999
HIGHEST_CHANGE = 99999

OUT_OF_RANGE = -1
NO_LINK = -2
NO_ITEM = -3
NO_PACKET = -5
NOT_AWAITED = -6
IN_TRANSIT = -7
FULL = -8
NOT_SAFE = -9


def new_link(links, arguments):
    if not are_in_range(arguments):
        return [OUT_OF_RANGE]
    if len(links) >= LINK_LIMIT:
        return [FULL]
    link = Link(arguments[0], arguments[1], arguments[2], arguments[3], arguments[4])
    links.append(link)
    return [len(links) - 1, 1 if link.safe else 0]


def send_item(link, arguments):
    item = arguments[0]
    if not is_item(item):
        return [NO_ITEM]
    number = len(link.sender.all_items)
    if number >= ITEM_LIMIT:
        return [FULL]
    link.sender.add_item(item)
    return [number, link.sender.fill_window()]


def retransmit(link, arguments):
    number = arguments[0]
    if not link.sender.awaits_acknowledgement(number):
        return [NOT_AWAITED]
    link.sender.send_frame(number)
    return [1 if link.sender.has_content(number) else 0]


def deliver_frame(link, arguments):
    refusal = refused_delivery(link.frames, arguments)
    if refusal:
        return refusal
    delivered_before = len(link.receiver.delivered)
    status = link.receiver.receive_frame(taken_packet(link.frames, arguments))
    return [status, len(link.receiver.delivered) - delivered_before]


def lose_frame(link, arguments):
    return lose_packet(link.frames, arguments)


def corrupt_frame(link, arguments):
    return corrupt_packet(link.frames, arguments)


def send_ack(link, arguments):
    fields = link.receiver.ack_fields()
    link.acks.send(fields)
    return told_list(fields)


def deliver_ack(link, arguments):
    refusal = refused_delivery(link.acks, arguments)
    if refusal:
        return refusal
    status = link.sender.receive_ack(taken_packet(link.acks, arguments))
    sent = link.sender.move_window()
    return [status, link.sender.base, sent]


def lose_ack(link, arguments):
    return lose_packet(link.acks, arguments)


def corrupt_ack(link, arguments):
    return corrupt_packet(link.acks, arguments)


def list_frames(link, arguments):
    return packet_list(link.frames)


def list_acks(link, arguments):
    return packet_list(link.acks)


def sender_state(link, arguments):
    sender = link.sender
    numbers = [sender.base, sender.window_count(), sender.queue_count()]
    for number in range(sender.base, sender.next_number):
        numbers.append(0 if sender.awaits_acknowledgement(number) else 1)
        numbers.append(1 if sender.has_content(number) else 0)
    return numbers


def receiver_state(link, arguments):
    return [link.receiver.lowest_missing] + told_list(link.receiver.received_above())


def list_delivered(link, arguments):
    first = arguments[0]
    delivered = link.receiver.delivered
    if first < 0 or first > len(delivered):
        return [OUT_OF_RANGE]
    numbers = [len(delivered)]
    for number, item in delivered[first:]:
        numbers.append(number)
        numbers.extend(told_list(item))
    return numbers


def list_in_transit(link, arguments):
    return told_list(link.in_transit()) + told_list(link.known_in_transit())


def minimum_times(links, arguments):
    exact = times_in_transit(links)
    known = []
    for link in links:
        known.extend(link.sender.times_of(link.known_in_transit()))
    return told_minimum(exact) + told_minimum(known)


def drop_below(links, arguments):
    time = arguments[0]
    if time < 0 or time > HIGHEST_TIME_LIMIT:
        return [OUT_OF_RANGE]
    if min(times_in_transit(links), default=time) < time:
        return [IN_TRANSIT]
    dropped = 0
    for link in links:
        dropped += link.sender.drop_contents(time)
    return [dropped]


def check_parameters(links, arguments):
    if not are_in_range(arguments):
        return [OUT_OF_RANGE]
    condition = violated_condition(arguments)
    return [1 if condition == NO_CONDITION else 0, condition]


def find_failure(links, arguments):
    if not are_in_range(arguments):
        return [OUT_OF_RANGE]
    steps = failure_steps(arguments)
    numbers = [len(steps)]
    for step in steps:
        numbers.extend(step)
    return numbers


def recover(link, arguments):
    if not link.safe:
        return [NOT_SAFE]
    delivered_before = len(link.receiver.delivered)
    rounds = link.repeat_windows(ROUND_LIMIT)
    return [rounds, len(link.receiver.delivered) - delivered_before]


def get_counts(links, arguments):
    numbers = [len(links)]
    for link in links:
        numbers.extend([len(link.sender.all_items), len(link.receiver.delivered)])
        numbers.extend([len(link.frames.packets), len(link.acks.packets)])
        numbers.extend([link.frames.sent_count, link.acks.sent_count])
    return numbers


def told_list(numbers):
    return [len(numbers)] + numbers


def told_minimum(times):
    return [1, min(times)] if times else [0]


def times_in_transit(links):
    times = []
    for link in links:
        times.extend(link.sender.times_of(link.in_transit()))
    return times


def refused_delivery(channel, arguments):
    if arguments[1] < 0 or arguments[1] > 1:
        return [OUT_OF_RANGE]
    if not channel.holds(arguments[0]):
        return [NO_PACKET]
    return []


def taken_packet(channel, arguments):
    packet = channel.packet_at(arguments[0])
    if arguments[1] == 0:
        channel.lose(arguments[0])
    return packet


def lose_packet(channel, arguments):
    if not channel.holds(arguments[0]):
        return [NO_PACKET]
    channel.lose(arguments[0])
    return [0]


def corrupt_packet(channel, arguments):
    if not channel.holds(arguments[0]):
        return [NO_PACKET]
    packet = channel.packet_at(arguments[0])
    place = arguments[1]
    number = arguments[2]
    if not packet.has_place(place) or number < LOWEST_CHANGE or number > HIGHEST_CHANGE:
        return [OUT_OF_RANGE]
    packet.change(place, number)
    return [0]


def packet_list(channel):
    numbers = [len(channel.packets)]
    for packet in channel.packets:
        numbers.extend(told_list(packet.fields + [packet.checksum]))
    return numbers


# How many plain numbers each call has; only send_item has a list behind them.
ARGUMENT_COUNTS = (5, 1, 2, 3, 2, 4, 1, 3, 2, 4, 1, 1, 1, 1, 2, 1, 0, 1, 5, 5, 1, 0)

# The calls on one link, which is looked up ahead of them, and those on all links.
LINK_CALLS = {
    1: send_item,
    2: retransmit,
    3: deliver_frame,
    4: lose_frame,
    5: corrupt_frame,
    6: send_ack,
    7: deliver_ack,
    8: lose_ack,
    9: corrupt_ack,
    10: list_frames,
    11: list_acks,
    12: sender_state,
    13: receiver_state,
    14: list_delivered,
    15: list_in_transit,
    20: recover,
}
SESSION_CALLS = {
    0: new_link,
    16: minimum_times,
    17: drop_below,
    18: check_parameters,
    19: find_failure,
    21: get_counts,
}


def answers(calls):
    links = []
    results = []
    place = 0
    while place < len(calls):
        call_number = calls[place]
        end = place + 1 + ARGUMENT_COUNTS[call_number]
        arguments = calls[place + 1:end]
        if call_number == SEND_ITEM:
            row_start = end + 1
            end = row_start + calls[end]
            arguments.append(calls[row_start:end])
        answer = answer_call(links, call_number, arguments)
        results.append(len(answer))
        results.extend(answer)
        place = end
    return results


def answer_call(links, call_number, arguments):
    if call_number in SESSION_CALLS:
        session_call = SESSION_CALLS[call_number]
        return session_call(links, arguments)
    link_number = arguments[0]
    if link_number < 0 or link_number >= len(links):
        return [NO_LINK]
    link_call = LINK_CALLS[call_number]
    return link_call(links[link_number], arguments[1:])
