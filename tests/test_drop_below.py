import unittest

from asking import (
    BIG, EVENT, acknowledge, ask, assert_refused, corrupt_frame, deliver_ack, deliver_frame, drop_below, forged_frame,
    last, list_delivered, list_frames, list_in_transit, minimum_times, new_link, receiver_state, retransmit, send_ack,
    send_item, send_times, sender_state, timed,
)

LINK = [new_link(3, 20, 9, 3, 0)]
ORDERED = [new_link(3, 20, 9, 3, 1)]
BOTH = (LINK, ORDERED)


def delivered(link, times):
    """A link on which the items with these times are delivered, and not yet acknowledged."""
    return link + send_times(0, times) + [deliver_frame(0, 0, 0)] * len(times)


class Times(unittest.TestCase):
    def test_both_ends_of_t(self):
        before = delivered(LINK, [0, 999])
        self.assertEqual(last(before + [drop_below(0)]), [0])
        self.assertEqual(last(before + [drop_below(1)]), [1])
        self.assertEqual(last(before + [drop_below(999)]), [1])
        self.assertEqual(last(before + [drop_below(1000)]), [2])

    def test_the_next_number_on_both_sides_of_t(self):
        for t in (-1, -2, 1001, 1002, -BIG, BIG):
            assert_refused(self, delivered(LINK, [0, 999]), drop_below(t), -1)
            assert_refused(self, [], drop_below(t), -1, link_count=0)

    def test_out_of_range_comes_ahead_of_an_item_in_transit(self):
        for t in (-1, 1001, BIG):
            assert_refused(self, LINK + send_times(0, [0]), drop_below(t), -1)

    def test_only_times_below_t_are_dropped(self):
        for link in BOTH:
            before = delivered(link, [4, 5, 6])
            for t, count in ((3, 0), (4, 0), (5, 1), (6, 2), (7, 3), (1000, 3)):
                contents = [0, 3, 0] + [part for time in (4, 5, 6) for part in (0, 0 if time < t else 1)]
                self.assertEqual(ask(before + [drop_below(t), sender_state(0)])[-2:], [[count], contents])

    def test_the_time_of_an_event(self):
        before = LINK + [send_item(0, EVENT), deliver_frame(0, 0, 0)]
        self.assertEqual(last(before + [drop_below(5)]), [0])
        self.assertEqual(last(before + [drop_below(6)]), [1])

    def test_without_links_and_without_items(self):
        for t in (0, 1, 500, 1000):
            self.assertEqual(last([drop_below(t)]), [0])
            self.assertEqual(last(LINK + ORDERED + [drop_below(t)]), [0])


class InTransit(unittest.TestCase):
    def assert_allowed_up_to(self, before, t, count):
        self.assertEqual(last(before + [drop_below(t)]), [count])
        assert_refused(self, before, drop_below(t + 1), -7)
        assert_refused(self, before, drop_below(1000), -7)

    def test_an_item_in_the_window(self):
        for link in BOTH:
            self.assert_allowed_up_to(link + send_times(0, [3, 8, 9]) + [deliver_frame(0, 0, 0)], 8, 1)

    def test_an_item_of_time_0(self):
        for link in BOTH:
            self.assert_allowed_up_to(link + send_times(0, [0]), 0, 0)

    def test_an_item_that_waits_in_the_queue(self):
        for link in BOTH:
            before = link + send_times(0, [3, 4, 5, 8]) + [deliver_frame(0, 0, 0)] * 3
            self.assert_allowed_up_to(before, 8, 3)
            self.assert_allowed_up_to(link + send_times(0, [3, 4, 5, 2]) + [deliver_frame(0, 0, 0)] * 3, 2, 0)

    def test_received_but_not_delivered(self):
        before = send_times(0, [8, 3, 4]) + [deliver_frame(0, 1, 0)] + acknowledge(0)
        self.assert_allowed_up_to(ORDERED + before, 3, 0)
        self.assert_allowed_up_to(LINK + before, 4, 1)

    def test_as_far_as_the_sender_knows_does_not_count(self):
        for link in BOTH:
            before = delivered(link, [3, 8])
            self.assertEqual(ask(before + [minimum_times(), drop_below(1000)])[-2:], [[0, 1, 3], [2]])

    def test_an_item_on_another_link(self):
        for link, other in ((0, 1), (1, 0)):
            before = LINK + ORDERED + [send_item(link, timed(0, 3)), deliver_frame(link, 0, 0)]
            before += [send_item(other, timed(0, 6))]
            self.assertEqual(last(before + [drop_below(6)]), [1])
            assert_refused(self, before, drop_below(7), -7, link_count=2)


class Dropping(unittest.TestCase):
    def test_a_content_dropped_twice_counts_once(self):
        before = delivered(LINK, [3, 4, 8])
        calls = before + [drop_below(4), drop_below(4), drop_below(5), drop_below(8), drop_below(9), drop_below(1000)]
        self.assertEqual(ask(calls)[-6:], [[1], [0], [1], [0], [1], [0]])

    def test_a_smaller_t_later_gives_nothing_back(self):
        calls = delivered(LINK, [3, 8]) + [drop_below(9), drop_below(2), sender_state(0)]
        self.assertEqual(ask(calls)[-3:], [[2], [0], [0, 2, 0, 0, 0, 0, 0]])

    def test_acknowledged_numbers_in_the_window_count(self):
        acknowledged = send_times(0, [8, 3, 4]) + [deliver_frame(0, 1, 0)] * 2 + acknowledge(0)
        self.assertEqual(last(LINK + acknowledged + [drop_below(8)]), [2])
        for link in BOTH:
            before = link + acknowledged + [deliver_frame(0, 0, 0)]
            self.assertEqual(last(before + [sender_state(0)]), [0, 3, 0, 0, 1, 1, 1, 1, 1])
            found = ask(before + [drop_below(5), sender_state(0), drop_below(9), sender_state(0)])[-4:]
            self.assertEqual(found[:2], [[2], [0, 3, 0, 0, 1, 1, 0, 1, 0]])
            self.assertEqual(found[2:], [[1], [0, 3, 0, 0, 0, 1, 0, 1, 0]])

    def test_numbers_that_left_the_window_do_not_count(self):
        for link in BOTH:
            self.assertEqual(last(delivered(link, [3, 4]) + acknowledge(0) + [drop_below(9)]), [0])
            before = link + send_times(0, [3, 4]) + [deliver_frame(0, 0, 0)] + acknowledge(0) + [deliver_frame(0, 0, 0)]
            self.assertEqual(last(before + [drop_below(9)]), [1])

    def test_contents_of_the_queue_are_not_dropped(self):
        # Under the numbers 3 and 4 something is delivered ahead of time, so that their items aren't in transit.
        for link in BOTH:
            before = delivered(link, [5, 6, 7]) + [send_ack(0), retransmit(0, 0)]
            for number in (3, 4):
                before += forged_frame(0, 0, number, timed(0, 5)) + [deliver_frame(0, 0, 1)]
                before += forged_frame(0, 0, 0, timed(0, 5))
            before += [send_item(0, timed(3, 2)), send_item(0, timed(4, 8)), list_in_transit(0), drop_below(1000)]
            self.assertEqual(ask(before)[-2:], [[0, 5, 0, 1, 2, 3, 4], [3]])
            calls = before + [deliver_ack(0, 0, 0), sender_state(0), drop_below(1000), sender_state(0)]
            self.assertEqual(ask(calls)[-3:], [[3, 2, 0, 0, 1, 0, 1], [2], [3, 2, 0, 0, 0, 0, 0]])

    def test_an_item_sent_later_has_its_content(self):
        calls = delivered(LINK, [3, 4]) + [drop_below(1000), send_item(0, timed(2, 1)), sender_state(0)]
        self.assertEqual(last(calls), [0, 3, 0, 0, 0, 0, 0, 0, 1])

    def test_several_links_at_once(self):
        calls = LINK + ORDERED + LINK + ORDERED
        for link, times in ((0, (3, 4)), (1, (1, 9)), (2, (8, 2)), (3, ())):
            for number, time in enumerate(times):
                calls += [send_item(link, timed(number, time)), deliver_frame(link, 0, 0)]
        states = [sender_state(link) for link in range(4)]
        found = ask(calls + [drop_below(4)] + states + [drop_below(9)] + states)[len(calls):]
        self.assertEqual(found[0], [3])
        self.assertEqual([state[4::2] for state in found[1:5]], [[0, 1], [0, 1], [1, 0], []])
        self.assertEqual(found[5], [2])
        self.assertEqual([state[4::2] for state in found[6:]], [[0, 0], [0, 1], [0, 0], []])

    def test_what_is_in_transit_and_the_times_stay(self):
        for link in BOTH:
            before = link + send_times(0, [3, 4, 9]) + [deliver_frame(0, 0, 0)] * 2
            looks = [list_in_transit(0), minimum_times(), list_delivered(0, 0), receiver_state(0), list_frames(0)]
            found = ask(before + looks + [drop_below(9)] + looks)[len(before):]
            self.assertEqual(found[5], [2])
            self.assertEqual(found[:5], found[6:])


class EmptyFrames(unittest.TestCase):
    def test_a_dropped_content_that_is_sent_again(self):
        for link in BOTH:
            calls = delivered(link, [3, 4]) + [drop_below(4), retransmit(0, 0), retransmit(0, 1), list_frames(0)]
            self.assertEqual(ask(calls)[-3:], [[0], [1], [2, 2, 0, 97, 5, 1, 2, 0, 4, 409]])

    def test_frames_sent_before_keep_their_item(self):
        calls = LINK + send_times(0, [3, 4]) + [deliver_frame(0, 0, 1), deliver_frame(0, 1, 1), drop_below(9)]
        self.assertEqual(last(calls + [list_frames(0)]), [2, 5, 0, 1, 0, 3, 402, 5, 1, 2, 0, 4, 409])

    def test_the_first_field_of_an_empty_frame_wraps(self):
        calls = [new_link(1, 3, 1, 1, 0)]
        for number in range(5):
            calls += [send_item(0, timed(number, number)), deliver_frame(0, 0, 0)] + acknowledge(0) * (number < 4)
        calls += [drop_below(5), retransmit(0, 4), list_frames(0)]
        self.assertEqual(ask(calls)[-3:], [[1], [0], [1, 2, 1, 98]])

    def test_an_empty_frame_is_ignored(self):
        for link in BOTH:
            before = delivered(link, [3, 4]) + [drop_below(9), retransmit(0, 0)]
            # Also where it would stand for a number that isn't received yet.
            for field in (0, 2, 4):
                calls = before + forged_frame(0, 0, field, []) + [deliver_frame(0, 0, 0), receiver_state(0)]
                self.assertEqual(ask(calls)[-2:], [[1, 0], [2, 0]])

    def test_a_corrupted_empty_frame_is_corrupted(self):
        before = delivered(LINK, [3]) + [drop_below(9), retransmit(0, 0)]
        for place in (0, 1):
            calls = before + [corrupt_frame(0, 0, place, 7), deliver_frame(0, 0, 0)]
            self.assertEqual(ask(calls)[-2:], [[0], [0, 0]])
        for place in (-1, 2):
            assert_refused(self, before, corrupt_frame(0, 0, place, 7), -1)

    def test_the_number_leaves_the_window_as_any_other(self):
        for link in BOTH:
            before = delivered(link, [3, 4]) + send_times(0, [3, 4, 5, 6])[2:] + [drop_below(5)]
            calls = before + acknowledge(0) + [sender_state(0), retransmit(0, 0), retransmit(0, 1), minimum_times()]
            self.assertEqual(ask(calls)[-5:], [[2, 2, 1], [2, 2, 0, 0, 1, 0, 1], [-6], [-6], [1, 5, 1, 5]])

    def test_an_acknowledged_number_is_not_sent_again_dropped_or_not(self):
        before = LINK + send_times(0, [8, 3]) + [deliver_frame(0, 1, 0)] + acknowledge(0) + [drop_below(4)]
        self.assertEqual(last(before), [1])
        assert_refused(self, before, retransmit(0, 1), -6)


if __name__ == "__main__":
    unittest.main()
