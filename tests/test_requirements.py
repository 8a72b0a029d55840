import random
import unittest

from asking import ask, deliver_ack, deliver_frame, new_link, numbered, retransmit, send_ack, send_items, transfer
from wrapwindow import links
from wrapwindow.link import Link

SAFE = [
    (w, max(2 * w + k - 1, r * w + 1) + more, k, r, o)
    for w, k, r, more in (
        (1, 1, 1, 0), (1, 4, 2, 0), (1, 2, 5, 0), (2, 1, 2, 0), (2, 3, 2, 0), (2, 6, 3, 1), (3, 2, 4, 0), (3, 9, 1, 0),
        (4, 20, 2, 0), (5, 4, 3, 2), (8, 1, 1, 0), (8, 20, 12, 0), (8, 5, 3, 0),
    )
    for o in (0, 1)
]


class Channels:
    """Does with the packets of a link whatever a bad channel may do, at most one number of each changed."""

    def __init__(self, parameters, seed):
        self.link = Link(*parameters)
        self.random = random.Random(seed)
        self.changed = []

    def step(self):
        link, choose = self.link, self.random
        choice = choose.randrange(12)
        if choice < 3 and len(link.sender.all_items) < 120:
            links.send_item(link, [numbered(len(link.sender.all_items))])
        elif choice == 3 and link.sender.next_number > link.sender.base:
            links.retransmit(link, [choose.randrange(link.sender.base, link.sender.next_number)])
        elif choice < 7:
            self.on_a_packet(link.frames, links.deliver_frame, links.lose_frame, links.corrupt_frame)
        elif choice < 9:
            links.send_ack(link, [])
        else:
            self.on_a_packet(link.acks, links.deliver_ack, links.lose_ack, links.corrupt_ack)

    def on_a_packet(self, channel, deliver, lose, corrupt):
        if not channel.packets:
            return
        place = self.random.randrange(len(channel.packets))
        choice = self.random.randrange(10)
        if choice == 0:
            lose(self.link, [place])
        elif choice == 1 and not any(channel.packets[place] is packet for packet in self.changed):
            self.changed.append(channel.packets[place])
            field = self.random.randrange(len(channel.packets[place].fields) + 1)
            corrupt(self.link, [place, field, self.random.choice([-1, 0, 1, 2, 3, 5, 9, self.random.randrange(99999)])])
        else:
            deliver(self.link, [place, self.random.randrange(2)])


class SafeLinks(unittest.TestCase):
    def assert_promised(self, link, parameters):
        sender, receiver = link.sender, link.receiver
        numbers = [number for number, item in receiver.delivered]
        for number, item in receiver.delivered:
            self.assertLess(number, len(sender.all_items), parameters)
            self.assertEqual(item, sender.all_items[number], parameters)
        self.assertEqual(len(numbers), len(set(numbers)), parameters)
        if link.receiver.ordered:
            self.assertEqual(numbers, list(range(len(numbers))), parameters)
            self.assertTrue(set(range(sender.base)) <= set(numbers), parameters)
        else:
            self.assertTrue(set(sender.acknowledged) <= set(numbers), parameters)
        self.assertTrue(set(sender.acknowledged) <= set(receiver.received), parameters)
        self.assertLessEqual(sender.next_number - sender.base, sender.window_size)
        self.assertLessEqual(len(link.frames.packets), link.frames.lifetime)
        self.assertLessEqual(len(link.acks.packets), link.acks.lifetime)

    def test_whatever_the_channels_do(self):
        for parameters in SAFE:
            delivered = 0
            for seed in range(6):
                channels = Channels(parameters, seed)
                self.assertTrue(channels.link.safe)
                for step in range(400):
                    channels.step()
                    if step % 10 == 0:
                        self.assert_promised(channels.link, parameters)
                self.assert_promised(channels.link, parameters)
                delivered += len(channels.link.receiver.delivered)
            self.assertGreater(delivered, 30, parameters)

    def test_all_is_delivered_when_the_channels_are_good_again(self):
        for parameters in SAFE:
            channels = Channels(parameters, 99)
            for step in range(300):
                channels.step()
            link = channels.link
            for channel in (link.frames, link.acks):
                while channel.packets:
                    channel.lose(0)
            while link.sender.next_number > link.sender.base:
                base = link.sender.base
                links.retransmit(link, [base])
                links.deliver_frame(link, [len(link.frames.packets) - 1, 0])
                links.send_ack(link, [])
                links.deliver_ack(link, [len(link.acks.packets) - 1, 0])
                self.assertGreater(link.sender.base, base)
            self.assertEqual(len(link.receiver.delivered), len(link.sender.all_items))
            self.assert_promised(link, parameters)


def frame_trace(w, m):
    """The steps that make a link fail whose M is too small for its frames (condition 1)."""
    calls = []
    for number in range(w):
        calls += transfer(0, number)
    calls += [retransmit(0, 0), send_ack(0), deliver_ack(0, 0, 0)]
    for number in range(w, m + 1 - w):
        calls += transfer(0, number, 1) + [send_ack(0), deliver_ack(0, 0, 0)]
    return calls + [deliver_frame(0, 0, 0)]


def ack_trace(w, m):
    """The steps that make a link fail whose M is too small for its acknowledgements (condition 2)."""
    calls = [send_ack(0)]
    rounds = (m + w - 1) // w - 1
    for first in range(0, rounds * w, w):
        for number in range(first, first + w):
            calls += transfer(0, number)
        calls += [send_ack(0), deliver_ack(0, 1, 0)]
    return calls + send_items(0, rounds * w, w) + [deliver_ack(0, 0, 0)]


class LinksThatAreNotSafe(unittest.TestCase):
    PARAMETERS = [(w, k, r, o) for w in (1, 2, 3, 5, 8) for k in (1, 2, 7, 20) for r in (1, 2, 5, 12) for o in (0, 1)]

    def fails(self, link):
        never_sent = [number for number in link.receiver.received if number >= link.sender.next_number]
        never_received = [number for number in link.sender.acknowledged if number not in link.receiver.received]
        return bool(never_sent or never_received)

    def test_the_last_step_of_the_trace_and_none_before_makes_it_fail(self):
        for w, k, r, o in self.PARAMETERS:
            for m in range(w + 1, max(2 * w + k - 1, r * w + 1)):
                link = Link(w, m, k, r, o)
                self.assertFalse(link.safe)
                trace = frame_trace(w, m) if m < 2 * w + k - 1 else ack_trace(w, m)
                failed = []
                for call in trace:
                    arguments = [call[3:]] if call[0] == 1 else call[2:]
                    self.assertGreaterEqual(links.LINK_CALLS[call[0]](link, arguments)[0], 0)
                    failed.append(self.fails(link))
                self.assertEqual(failed, [False] * (len(trace) - 1) + [True], (w, m, k, r, o))

    def test_what_the_last_step_answers(self):
        self.assertEqual(ask([new_link(2, 5, 3, 2, 0)] + frame_trace(2, 5))[-1], [2, 1])
        self.assertEqual(ask([new_link(3, 9, 1, 3, 1)] + ack_trace(3, 9))[-1], [2, 9, 0])

    def test_the_same_steps_do_nothing_where_m_is_one_larger(self):
        self.assertEqual(ask([new_link(2, 6, 3, 2, 0)] + frame_trace(2, 5))[-1], [1, 0])
        self.assertEqual(ask([new_link(3, 10, 1, 3, 1)] + ack_trace(3, 9))[-1], [1, 6, 0])


if __name__ == "__main__":
    unittest.main()
