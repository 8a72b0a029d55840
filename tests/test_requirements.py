import random
import unittest

from asking import (
    ask, check_parameters, deliver_ack, deliver_frame, find_failure, list_delivered, list_in_transit, lose_ack,
    lose_frame, new_link, numbered, receiver_state, recover, retransmit, send_ack, send_item, send_items, sender_state,
    transfer,
)
from wrapwindow import links
from wrapwindow.link import Link

SAFE = [
    (w, max(2 * w + k - 1, r * w + 1) + more, k, r, o)
    for w, k, r, more in (
        (1, 1, 1, 0), (1, 4, 2, 0), (1, 2, 5, 0), (2, 1, 2, 0), (2, 3, 2, 0), (2, 6, 3, 1), (3, 2, 4, 0), (3, 9, 1, 0),
        (4, 20, 2, 0), (5, 4, 3, 2), (8, 1, 1, 0), (8, 20, 12, 0), (8, 5, 3, 0),
    )
    for o in (0, 1)
]


def delivered_items(answer):
    """What list_delivered tells, as pairs of a number and an item."""
    pairs = []
    place = 1
    while place < len(answer):
        end = place + 2 + answer[place + 1]
        pairs.append((answer[place], answer[place + 2:end]))
        place = end
    return pairs


def two_lists(answer):
    """What list_in_transit tells: the numbers in transit, and those as far as the sender knows."""
    end = 1 + answer[0]
    return answer[1:end], answer[end + 1:]


def acknowledged_numbers(state):
    """What sender_state tells of acknowledged numbers, those that left the window, too."""
    base = state[0]
    return set(range(base)) | {base + place for place, flag in enumerate(state[3::2]) if flag}


def received_numbers(state):
    return set(range(state[0])) | set(state[2:])


class Session:
    """Links, and whatever bad channels may do with their packets: at most one number of each is changed."""

    def __init__(self, test, all_parameters, seed):
        self.test = test
        self.links = [Link(*parameters) for parameters in all_parameters]
        self.items = [[] for parameters in all_parameters]
        self.random = random.Random(seed)
        self.changed = []
        self.time = 0
        self.done = {"dropped": 0, "empty": 0, "refused": 0, "recovered": 0}

    def step(self):
        choose = self.random
        place = choose.randrange(len(self.links))
        link = self.links[place]
        choice = choose.randrange(26)
        if choice < 5 and len(self.items[place]) < 120:
            self.send_item(link, self.items[place])
        elif choice < 7 and link.sender.next_number > link.sender.base:
            number = choose.randrange(link.sender.base, link.sender.next_number)
            self.done["empty"] += links.retransmit(link, [number]) == [0]
        elif choice < 13:
            self.on_a_packet(link.frames, link, (links.deliver_frame, links.lose_frame, links.corrupt_frame))
        elif choice < 17:
            links.send_ack(link, [])
        elif choice < 23:
            self.on_a_packet(link.acks, link, (links.deliver_ack, links.lose_ack, links.corrupt_ack))
        elif choice < 25:
            self.drop()
        elif choose.randrange(8) == 0:
            self.recover(place)

    def send_item(self, link, items):
        self.time = min(900, self.time + self.random.randrange(4))
        time = self.time + self.random.randrange(20)
        number = len(items)
        items.append(self.random.choice([[number + 1, 0, time], [number + 1, time, 6, 0, 0, 0, -7]]))
        self.test.assertEqual(links.send_item(link, [list(items[-1])])[0], number)

    def on_a_packet(self, channel, link, calls):
        if not channel.packets:
            return
        place = self.random.randrange(len(channel.packets))
        choice = self.random.randrange(10)
        if choice == 0:
            calls[1](link, [place])
        elif choice == 1 and not any(channel.packets[place] is packet for packet in self.changed):
            self.changed.append(channel.packets[place])
            field = self.random.randrange(len(channel.packets[place].fields) + 1)
            calls[2](link, [place, field, self.random.choice([-1, 0, 1, 2, 3, 5, 9, self.random.randrange(99999)])])
        else:
            calls[0](link, [place, self.random.randrange(2)])

    def times_in_transit(self, which):
        """The times of the items in transit on all links: exactly (0), or as far as the senders know (1)."""
        times = []
        for link, items in zip(self.links, self.items):
            for number in two_lists(links.list_in_transit(link, []))[which]:
                times.append(items[number][1 if len(items[number]) == 7 else 2])
        return times

    def drop(self):
        """Contents are dropped, or it is refused; and only contents that were delivered are dropped."""
        exact = self.times_in_transit(0)
        lowest = min(exact, default=1000)
        t = self.random.choice([lowest] * 6 + [lowest + 1, self.random.randrange(1001)])
        before = self.contents()
        answer = links.drop_below(self.links, [min(t, 1000)])
        dropped = [entry for entry, still in zip(before, self.contents()) if entry[2] and not still[2]]
        if min(t, 1000) > lowest:
            self.test.assertEqual((answer, dropped), ([-7], []))
            self.done["refused"] += 1
            return
        self.test.assertEqual(answer, [len(dropped)])
        for place, number, present in dropped:
            delivered = delivered_items(links.list_delivered(self.links[place], [0]))
            self.test.assertIn((number, self.items[place][number]), delivered)
        self.done["dropped"] += len(dropped)

    def contents(self):
        """For each number in a window its link, itself, and whether its content is present."""
        found = []
        for place, link in enumerate(self.links):
            state = links.sender_state(link, [])
            found += [(place, state[0] + distance, flag) for distance, flag in enumerate(state[4::2])]
        return found

    def recover(self, place):
        link, items = self.links[place], self.items[place]
        delivered_before = links.list_delivered(link, [0])[0]
        rounds, delivered = links.recover(link, [])
        self.test.assertLessEqual(rounds, 120)
        self.test.assertEqual(delivered_before + delivered, len(items))
        self.test.assertEqual(links.sender_state(link, []), [len(items), 0, 0])
        self.test.assertEqual(links.list_in_transit(link, []), [0, 0])
        self.assert_promised()
        self.done["recovered"] += 1

    def assert_promised(self):
        for link, items in zip(self.links, self.items):
            self.assert_link_promised(link, items)
        exact, known = self.times_in_transit(0), self.times_in_transit(1)
        told = ([1, min(exact)] if exact else [0]) + ([1, min(known)] if known else [0])
        self.test.assertEqual(links.minimum_times(self.links, []), told)
        counts = links.get_counts(self.links, [])
        for link, start in zip(self.links, range(1, len(counts), 6)):
            self.test.assertLessEqual(counts[start + 2], link.frames.lifetime)
            self.test.assertLessEqual(counts[start + 3], link.acks.lifetime)

    def assert_link_promised(self, link, items):
        test = self.test
        delivered = delivered_items(links.list_delivered(link, [0]))
        numbers = [number for number, item in delivered]
        for number, item in delivered:
            test.assertLess(number, len(items))
            test.assertEqual(item, items[number])
        test.assertEqual(len(numbers), len(set(numbers)))
        if link.receiver.ordered:
            test.assertEqual(numbers, list(range(len(numbers))))
        state = links.sender_state(link, [])
        test.assertLessEqual(state[1], link.sender.window_size)
        test.assertEqual(state[0] + state[1] + state[2], len(items))
        received = received_numbers(links.receiver_state(link, []))
        test.assertLessEqual(acknowledged_numbers(state), received)
        exact, known = two_lists(links.list_in_transit(link, []))
        test.assertEqual(exact, [number for number in range(len(items)) if number not in numbers])
        test.assertLessEqual(set(exact), set(known))


class SafeLinks(unittest.TestCase):
    def test_long_runs_whatever_the_channels_do(self):
        done = {"dropped": 0, "empty": 0, "refused": 0, "recovered": 0}
        for place, parameters in enumerate(SAFE):
            for seed in range(4):
                others = [SAFE[(place + seed * 7 + 3) % len(SAFE)]] * (seed % 3)
                session = Session(self, [parameters] + others, seed)
                for step in range(400):
                    session.step()
                    if step % 10 == 0:
                        session.assert_promised()
                for link in range(len(session.links)):
                    session.recover(link)
                done = {name: count + session.done[name] for name, count in done.items()}
        # The runs come by all that they are to try.
        self.assertGreater(min(done.values()), 50, done)

    def test_all_that_is_sent_is_delivered_by_recover(self):
        for parameters in SAFE:
            session = Session(self, [parameters], 99)
            for number in range(120):
                session.send_item(session.links[0], session.items[0])
            for step in range(50):
                session.step()
            session.recover(0)
            self.assertEqual(links.list_delivered(session.links[0], [0])[0], 120)

    def test_through_the_interface(self):
        for seed, parameters in enumerate(SAFE):
            choose = random.Random(seed)
            calls = [new_link(*parameters)]
            sent = 0
            while len(calls) < 145:
                place, stays = choose.randrange(3), choose.randrange(2)
                calls.append(choose.choice([
                    send_item(0, numbered(sent)), deliver_frame(0, place, stays), deliver_frame(0, 0, stays),
                    send_ack(0), deliver_ack(0, place, stays), lose_frame(0, place), lose_ack(0, place),
                    retransmit(0, choose.randrange(sent + 1)),
                ]))
                sent += calls[-1][0] == 1
            calls += [list_delivered(0, 0), list_in_transit(0), recover(0), list_delivered(0, 0), list_in_transit(0)]
            found = ask(calls)
            early, late = delivered_items(found[-5]), delivered_items(found[-2])
            self.assertEqual(late[:len(early)], early)
            self.assertEqual(sorted(late), [(number, numbered(number)) for number in range(sent)])
            exact, known = two_lists(found[-4])
            self.assertEqual(exact, sorted(set(range(sent)) - {number for number, item in early}))
            self.assertLessEqual(set(exact), set(known))
            self.assertEqual([found[-3][1], found[-1]], [sent - len(early), [0, 0]])


def frame_trace(w, m):
    """The steps that make a link fail whose M is too small for its frames (condition 1)."""
    calls = []
    for number in range(w):
        calls += transfer(0, number)
    calls += [retransmit(0, 0), send_ack(0), deliver_ack(0, 0, 0)]
    for number in range(w, m + 1 - w):
        calls += transfer(0, number, 1) + [send_ack(0), deliver_ack(0, 0, 0)]
    return calls + [deliver_frame(0, 0, 0)]


def ack_trace(w, m):
    """The steps that make a link fail whose M is too small for its acknowledgements (condition 2)."""
    calls = [send_ack(0)]
    rounds = -(-m // w) - 1
    for first in range(0, rounds * w, w):
        for number in range(first, first + w):
            calls += transfer(0, number)
        calls += [send_ack(0), deliver_ack(0, 1, 0)]
    return calls + send_items(0, rounds * w, w) + [deliver_ack(0, 0, 0)]


def steps_as_calls(answer):
    """The steps that find_failure answers, as calls on link 0."""
    calls = []
    place = 1
    while place < len(answer):
        number = answer[place]
        end = place + (2 + answer[place + 1] if number == 1 else {2: 2, 3: 3, 6: 1, 7: 3}[number])
        calls.append([number, 0] + answer[place + 1:end])
        place = end
    if len(calls) != answer[0]:
        raise AssertionError(f"{answer[0]} steps told, {len(calls)} given")
    return calls


def has_failed(sender, receiver):
    """Told of both states: a number never in the window was received, or one not received is acknowledged."""
    received = received_numbers(receiver)
    never_sent = {number for number in received if number >= sender[0] + sender[1]}
    return bool(never_sent or acknowledged_numbers(sender) - received)


class LinksThatAreNotSafe(unittest.TestCase):
    PARAMETERS = [
        (w, m, k, r, o) for w in (1, 2, 3, 5, 8) for k in (1, 2, 7, 20) for r in (1, 2, 5, 12) for o in (0, 1)
        for m in range(w + 1, max(2 * w + k - 1, r * w + 1))
    ]

    def test_the_last_step_of_the_trace_and_none_before_makes_it_fail(self):
        for parameters in self.PARAMETERS:
            link = Link(*parameters)
            self.assertFalse(link.safe)
            failed = []
            for call in steps_as_calls(links.find_failure([], list(parameters))):
                self.assertFalse(has_failed(links.sender_state(link, []), links.receiver_state(link, [])))
                arguments = [call[3:]] if call[0] == 1 else call[2:]
                self.assertGreaterEqual(links.LINK_CALLS[call[0]](link, arguments)[0], 0, parameters)
                failed.append(has_failed(links.sender_state(link, []), links.receiver_state(link, [])))
            self.assertEqual(failed, [False] * (len(failed) - 1) + [True], parameters)

    def test_the_steps_are_those_told(self):
        for parameters in self.PARAMETERS:
            w, m, k, r, o = parameters
            trace = frame_trace(w, m) if m < 2 * w + k - 1 else ack_trace(w, m)
            self.assertEqual(steps_as_calls(links.find_failure([], list(parameters))), trace, parameters)

    def test_through_the_interface(self):
        states = [sender_state(0), receiver_state(0)]
        for parameters in (
            (1, 2, 2, 1, 0), (2, 5, 4, 1, 1), (2, 3, 9, 1, 0), (3, 4, 1, 1, 1), (8, 9, 20, 12, 0), (8, 17, 20, 1, 1),
            (1, 2, 1, 2, 1), (2, 5, 1, 3, 0), (3, 9, 1, 3, 1), (3, 7, 1, 3, 0), (8, 40, 20, 5, 0), (5, 12, 3, 9, 1),
        ):
            for order in (parameters, parameters[:4] + (1 - parameters[4],)):
                steps = steps_as_calls(ask([find_failure(*order)])[0])
                for count in range(len(steps) + 1):
                    found = ask([new_link(*order)] + steps[:count] + states)
                    self.assertEqual(has_failed(found[-2], found[-1]), count == len(steps), (order, count))
                self.assertEqual(ask([check_parameters(*order)])[0][0], 0)

    def test_what_the_last_step_answers(self):
        self.assertEqual(ask([new_link(2, 5, 3, 2, 0)] + frame_trace(2, 5))[-1], [2, 1])
        self.assertEqual(ask([new_link(3, 9, 1, 3, 1)] + ack_trace(3, 9))[-1], [2, 9, 0])

    def test_the_same_steps_do_nothing_where_m_is_one_larger(self):
        self.assertEqual(ask([new_link(2, 6, 3, 2, 0)] + frame_trace(2, 5))[-1], [1, 0])
        self.assertEqual(ask([new_link(3, 10, 1, 3, 1)] + ack_trace(3, 9))[-1], [1, 6, 0])


if __name__ == "__main__":
    unittest.main()
