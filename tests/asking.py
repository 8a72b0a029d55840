"""Calls as lists of numbers, and what the program answers to them, call by call."""

from wrapwindow.links import answers

BIG = 10 ** 18
EVENT = [1, 5, 6, 0, 0, 0, 7]
ANTI_MESSAGE = [2, 1, 9]


def new_link(w, m, k, r, o):
    return [0, w, m, k, r, o]


def send_item(link, item):
    return [1, link, len(item)] + item


def retransmit(link, a):
    return [2, link, a]


def deliver_frame(link, packet, stays):
    return [3, link, packet, stays]


def lose_frame(link, packet):
    return [4, link, packet]


def corrupt_frame(link, packet, i, z):
    return [5, link, packet, i, z]


def send_ack(link):
    return [6, link]


def deliver_ack(link, packet, stays):
    return [7, link, packet, stays]


def lose_ack(link, packet):
    return [8, link, packet]


def corrupt_ack(link, packet, i, z):
    return [9, link, packet, i, z]


def list_frames(link):
    return [10, link]


def numbered(number):
    """The item of a number that no other number has."""
    return [number + 1, 0, 5]


def send_items(link, first, count):
    return [send_item(link, numbered(number)) for number in range(first, first + count)]


def transfer(link, number, place=0):
    """The item of a number is sent, and its frame received: the one at a place of the channel."""
    return [send_item(link, numbered(number)), deliver_frame(link, place, 0)]


def acknowledge(link, place=0):
    return [send_ack(link), deliver_ack(link, place, 0)]


def flat(calls):
    return [number for call in calls for number in call]


def split(numbers):
    """What is answered, as one list for each call."""
    found = []
    place = 0
    while place < len(numbers):
        end = place + 1 + numbers[place]
        if numbers[place] < 1 or end > len(numbers):
            raise AssertionError(f"no row of answers: {numbers}")
        found.append(numbers[place + 1:end])
        place = end
    return found


def ask(calls):
    found = split(answers(flat(calls)))
    if len(found) != len(calls):
        raise AssertionError(f"{len(calls)} calls, {len(found)} answers")
    return found


def last(calls):
    return ask(calls)[-1]


def probes(link_count):
    """Calls whose answers differ when anything about the links does."""
    calls = []
    for link in range(link_count):
        calls += [list_frames(link), deliver_ack(link, 0, 1), deliver_ack(link, 1, 1), lose_ack(link, 2)]
        calls += [send_ack(link), list_frames(link), deliver_frame(link, 0, 1), deliver_frame(link, 1, 0)]
        calls += [send_ack(link), lose_ack(link, 1), deliver_ack(link, 0, 0), list_frames(link)]
        calls += [send_item(link, [77, 3, 4]), list_frames(link)]
    return calls + [new_link(1, 9, 1, 1, 0)]


def assert_refused(test, before, call, code, link_count=1):
    """The call is answered by the code alone, and all that comes behind it is as if it were not there."""
    behind = probes(link_count)
    found = ask(before + [call] + behind)
    test.assertEqual(found[len(before)], [code], call)
    test.assertEqual(found[len(before) + 1:], ask(before + behind)[len(before):], call)
