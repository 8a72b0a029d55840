import unittest

from asking import (
    ANTI_MESSAGE, BIG, EVENT, acknowledge, ask, assert_refused, corrupt_frame, deliver_frame, drop_below, forged_frame,
    last, list_delivered, new_link, numbered, recover, retransmit, right_sum, send_item, send_items, send_times,
    transfer,
)

LINK = [new_link(3, 20, 9, 3, 0)]
ORDERED = [new_link(3, 20, 9, 3, 1)]
BOTH = (LINK, ORDERED)
THREE = send_items(0, 0, 3)


def told(*numbers):
    """What list_delivered tells of the items of these numbers, each delivered under its own."""
    return [part for number in numbers for part in [number, 3] + numbered(number)]


class ListDelivered(unittest.TestCase):
    def test_nothing_yet(self):
        for link in BOTH:
            self.assertEqual(last(link + THREE + [list_delivered(0, 0)]), [0])

    def test_both_sorts_of_items(self):
        for link in BOTH:
            calls = link + [send_item(0, EVENT), send_item(0, ANTI_MESSAGE)] + [deliver_frame(0, 0, 0)] * 2
            calls += [list_delivered(0, 0)]
            self.assertEqual(last(calls), [2, 0, 7] + EVENT + [1, 3] + ANTI_MESSAGE)

    def test_in_the_order_of_delivery(self):
        for received, order in (((2, 0, 1), (2, 0, 1)), ((1, 2), (1, 2)), ((2, 1, 0), (2, 1, 0)), ((1,), (1,))):
            calls = LINK + THREE + [deliver_frame(0, number, 1) for number in received] + [list_delivered(0, 0)]
            self.assertEqual(last(calls), [len(order)] + told(*order))

    def test_in_the_order_of_the_numbers_if_ordered(self):
        for received, order in (((2, 0, 1), (0, 1, 2)), ((1, 2), ()), ((2, 1, 0), (0, 1, 2)), ((2, 0), (0,))):
            calls = ORDERED + THREE + [deliver_frame(0, number, 1) for number in received] + [list_delivered(0, 0)]
            self.assertEqual(last(calls), [len(order)] + told(*order))

    def test_from_first_on_with_the_count_of_all(self):
        for link, order in ((LINK, (2, 0, 1)), (ORDERED, (0, 1, 2))):
            before = link + THREE + [deliver_frame(0, number, 1) for number in (2, 0, 1)]
            for first in range(4):
                self.assertEqual(last(before + [list_delivered(0, first)]), [3] + told(*order[first:]))

    def test_the_next_number_on_both_sides_of_first(self):
        for link in BOTH:
            before = link + THREE + [deliver_frame(0, 0, 1), deliver_frame(0, 1, 1)]
            for first in (-1, -2, 3, 4, -BIG, BIG):
                assert_refused(self, before, list_delivered(0, first), -1)
            for first in (-1, 1, 2):
                assert_refused(self, link + THREE, list_delivered(0, first), -1)

    def test_received_but_not_delivered_items_are_out_of_range(self):
        before = ORDERED + THREE + [deliver_frame(0, 1, 0)]
        assert_refused(self, before, list_delivered(0, 1), -1)

    def test_each_number_once_however_often_its_frame_comes(self):
        for link in BOTH:
            calls = link + THREE + [deliver_frame(0, 0, 1)] * 3 + [retransmit(0, 0), deliver_frame(0, 3, 0)]
            self.assertEqual(last(calls + [list_delivered(0, 0)]), [1] + told(0))

    def test_numbers_are_not_wrapped(self):
        calls = [new_link(2, 4, 1, 1, 1)]
        for number in range(9):
            calls += transfer(0, number) + acknowledge(0)
        self.assertEqual(last(calls + [list_delivered(0, 7)]), [9] + told(7, 8))

    def test_the_number_under_which_it_was_received(self):
        calls = LINK + THREE + forged_frame(0, 0, 2, numbered(0)) + [deliver_frame(0, 0, 0), list_delivered(0, 0)]
        self.assertEqual(last(calls), [1, 2, 3] + numbered(0))

    def test_the_item_that_was_received(self):
        for link in BOTH:
            calls = link + THREE + [corrupt_frame(0, 0, 1, 4), corrupt_frame(0, 0, 2, 9), corrupt_frame(0, 0, 3, -8)]
            calls += [corrupt_frame(0, 0, 4, right_sum([0, 4, 9, -8])), deliver_frame(0, 0, 0), list_delivered(0, 0)]
            self.assertEqual(last(calls), [1, 0, 3, 4, 9, -8])

    def test_a_copy_that_is_changed_later_changes_nothing(self):
        calls = LINK + THREE + [deliver_frame(0, 0, 1), corrupt_frame(0, 0, 1, 9), list_delivered(0, 0)]
        self.assertEqual(last(calls), [1] + told(0))

    def test_a_dropped_content_stays_delivered(self):
        calls = LINK + send_times(0, [3, 9]) + [deliver_frame(0, 0, 0), drop_below(9), list_delivered(0, 0)]
        self.assertEqual(ask(calls)[-2:], [[1], [1, 0, 3, 1, 0, 3]])

    def test_all_120(self):
        calls = [new_link(8, 35, 20, 4, 1)] + send_items(0, 0, 120) + [recover(0)]
        found = ask(calls + [list_delivered(0, first) for first in (0, 119, 120, 121)])
        self.assertEqual(found[-4:], [[120] + told(*range(120)), [120] + told(119), [120], [-1]])

    def test_each_link_has_its_own(self):
        calls = LINK + ORDERED + transfer(1, 0) + [list_delivered(0, 0), list_delivered(1, 0), list_delivered(0, 1)]
        self.assertEqual(ask(calls)[-3:], [[0], [1] + told(0), [-1]])


if __name__ == "__main__":
    unittest.main()
