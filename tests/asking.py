"""Calls as lists of numbers, and what the program answers to them, call by call."""

from wrapwindow.links import answers

BIG = 10 ** 18
EVENT = [1, 5, 6, 0, 0, 0, 7]
ANTI_MESSAGE = [2, 1, 9]


def new_link(w, m, k, r, o):
    return [0, w, m, k, r, o]


def send_item(link, item):
    return [1, link, len(item)] + item


def retransmit(link, a):
    return [2, link, a]


def deliver_frame(link, packet, stays):
    return [3, link, packet, stays]


def lose_frame(link, packet):
    return [4, link, packet]


def corrupt_frame(link, packet, i, z):
    return [5, link, packet, i, z]


def send_ack(link):
    return [6, link]


def deliver_ack(link, packet, stays):
    return [7, link, packet, stays]


def lose_ack(link, packet):
    return [8, link, packet]


def corrupt_ack(link, packet, i, z):
    return [9, link, packet, i, z]


def list_frames(link):
    return [10, link]


def list_acks(link):
    return [11, link]


def sender_state(link):
    return [12, link]


def receiver_state(link):
    return [13, link]


def list_delivered(link, first):
    return [14, link, first]


def list_in_transit(link):
    return [15, link]


def minimum_times():
    return [16]


def drop_below(t):
    return [17, t]


def check_parameters(w, m, k, r, o):
    return [18, w, m, k, r, o]


def find_failure(w, m, k, r, o):
    return [19, w, m, k, r, o]


def recover(link):
    return [20, link]


def get_counts():
    return [21]


def numbered(number):
    """The item of a number that no other number has."""
    return [number + 1, 0, 5]


def timed(number, time):
    """The item of a number, with a time of its own."""
    return [number + 1, 0, time]


def send_times(link, times):
    """The items from number 0 on, with these times."""
    return [send_item(link, timed(number, time)) for number, time in enumerate(times)]


def send_items(link, first, count):
    return [send_item(link, numbered(number)) for number in range(first, first + count)]


def transfer(link, number, place=0):
    """The item of a number is sent, and its frame received: the one at a place of the channel."""
    return [send_item(link, numbered(number)), deliver_frame(link, place, 0)]


def acknowledge(link, place=0):
    return [send_ack(link), deliver_ack(link, place, 0)]


def right_sum(fields):
    """The checksum of these fields."""
    return (sum((place + 1) * field for place, field in enumerate(fields)) + 97 * len(fields)) % 1000003


def forged_ack(link, place, fields):
    """The acknowledgement at a place becomes one with these fields and the checksum that fits."""
    calls = [corrupt_ack(link, place, i, field) for i, field in enumerate(fields)]
    return calls + [corrupt_ack(link, place, len(fields), right_sum(fields))]


def forged_frame(link, place, field, item):
    """The frame at a place, which has this item, stands for another number, with the checksum that fits."""
    checksum = right_sum([field] + item)
    return [corrupt_frame(link, place, 0, field), corrupt_frame(link, place, len(item) + 1, checksum)]


def flat(calls):
    return [number for call in calls for number in call]


def split(numbers):
    """What is answered, as one list for each call."""
    found = []
    place = 0
    while place < len(numbers):
        end = place + 1 + numbers[place]
        if numbers[place] < 1 or end > len(numbers):
            raise AssertionError(f"no row of answers: {numbers}")
        found.append(numbers[place + 1:end])
        place = end
    return found


def assert_allowed(calls):
    """Only such lists are handed in as the document tells of."""
    kinds = [call[0] for call in calls]
    if len(calls) not in range(1, 151) or len(flat(calls)) > 3500 or kinds.count(19) > 10:
        raise AssertionError(f"no list that may be handed in: {len(calls)} calls, {len(flat(calls))} numbers")


def ask(calls):
    assert_allowed(calls)
    found = split(answers(flat(calls)))
    if len(found) != len(calls):
        raise AssertionError(f"{len(calls)} calls, {len(found)} answers")
    return found


def last(calls):
    return ask(calls)[-1]


def look(link_count):
    """Calls that tell all that can be told of the links, and change nothing."""
    calls = [minimum_times(), get_counts()]
    for link in range(link_count):
        calls += [list_frames(link), list_acks(link), sender_state(link), receiver_state(link)]
        calls += [list_delivered(link, 0), list_in_transit(link)]
    return calls


def probes(link_count):
    """Calls whose answers differ when anything about the links does."""
    calls = look(link_count)
    for link in range(link_count):
        calls += [deliver_ack(link, 0, 1), lose_ack(link, 1), send_ack(link), deliver_frame(link, 0, 1)]
        calls += [deliver_frame(link, 1, 0), send_ack(link), lose_ack(link, 1), deliver_ack(link, 0, 0)]
        calls += [send_item(link, [77, 3, 4]), recover(link)]
    return calls + look(link_count) + [new_link(1, 9, 1, 1, 0)]


def assert_refused(test, before, call, code, link_count=1):
    """The call is answered by the code alone, and all that comes behind it is as if it were not there."""
    behind = probes(link_count)
    found = ask(before + [call] + behind)
    test.assertEqual(found[len(before)], [code], call)
    test.assertEqual(found[len(before) + 1:], ask(before + behind)[len(before):], call)
