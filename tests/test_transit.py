import unittest

from asking import (
    EVENT, acknowledge, ask, deliver_ack, deliver_frame, drop_below, find_failure, forged_ack, forged_frame, last,
    list_in_transit, lose_frame, minimum_times, new_link, recover, send_ack, send_item, send_items, send_times,
    timed,
)

LINK = [new_link(3, 20, 9, 3, 0)]
ORDERED = [new_link(3, 20, 9, 3, 1)]
BOTH = (LINK, ORDERED)
# Number 2 is received and acknowledged, number 1 received later on, and numbers 3 and 4 wait in the queue.
OUT_OF_ORDER = send_times(0, [3, 1, 2, 8, 6]) + [deliver_frame(0, 2, 0)] + acknowledge(0) + [deliver_frame(0, 1, 0)]


def lists(exact, known):
    return [len(exact)] + exact + [len(known)] + known


class ListInTransit(unittest.TestCase):
    def assert_lists(self, calls, exact, known):
        self.assertEqual(last(calls + [list_in_transit(0)]), lists(exact, known))

    def test_a_new_link(self):
        for link in BOTH:
            self.assert_lists(link, [], [])

    def test_items_that_wait_in_the_queue(self):
        for link in BOTH:
            self.assert_lists(link + send_items(0, 0, 5), [0, 1, 2, 3, 4], [0, 1, 2, 3, 4])

    def test_lost_frames(self):
        for link in BOTH:
            self.assert_lists(link + send_items(0, 0, 2) + [lose_frame(0, 0)], [0, 1], [0, 1])

    def test_delivered_but_not_acknowledged(self):
        for link in BOTH:
            before = link + send_items(0, 0, 5) + [deliver_frame(0, 0, 0)]
            self.assert_lists(before, [1, 2, 3, 4], [0, 1, 2, 3, 4])
            self.assert_lists(before + [send_ack(0)], [1, 2, 3, 4], [0, 1, 2, 3, 4])
            self.assert_lists(before + acknowledge(0), [1, 2, 3, 4], [1, 2, 3, 4])

    def test_out_of_order_not_ordered(self):
        self.assert_lists(LINK + OUT_OF_ORDER, [0, 3, 4], [0, 1, 3, 4])
        self.assert_lists(LINK + OUT_OF_ORDER + acknowledge(0), [0, 3, 4], [0, 3, 4])
        self.assert_lists(LINK + OUT_OF_ORDER + [deliver_frame(0, 0, 0)] + acknowledge(0), [3, 4], [3, 4])

    def test_out_of_order_ordered(self):
        self.assert_lists(ORDERED + OUT_OF_ORDER, [0, 1, 2, 3, 4], [0, 1, 2, 3, 4])
        self.assert_lists(ORDERED + OUT_OF_ORDER + acknowledge(0), [0, 1, 2, 3, 4], [0, 1, 2, 3, 4])
        self.assert_lists(ORDERED + OUT_OF_ORDER + [deliver_frame(0, 0, 0)], [3, 4], [0, 1, 2, 3, 4])
        self.assert_lists(ORDERED + OUT_OF_ORDER + [deliver_frame(0, 0, 0)] + acknowledge(0), [3, 4], [3, 4])

    def test_dropping_changes_neither(self):
        before = LINK + send_times(0, [3, 4, 9]) + [deliver_frame(0, 0, 0)] * 2
        self.assert_lists(before, [2], [0, 1, 2])
        self.assert_lists(before + [drop_below(9)], [2], [0, 1, 2])
        self.assert_lists(before + [drop_below(9)] + acknowledge(0), [2], [2])

    def test_something_else_delivered_under_its_number(self):
        # The item of number 0 is received under the number 1, and later that of number 0 under its own.
        for link in BOTH:
            calls = link + send_items(0, 0, 2) + forged_frame(0, 0, 1, [1, 0, 5]) + [deliver_frame(0, 0, 1)]
            calls += forged_frame(0, 0, 0, [1, 0, 5]) + [deliver_frame(0, 0, 0)]
            self.assert_lists(calls, [], [0, 1])

    def test_something_delivered_under_a_number_that_comes_later(self):
        # The failure trace: number 0 comes late and is mistaken for number 2, whose item isn't there yet.
        steps = [[1, 0, 3, 1, 0, 5], [3, 0, 0, 0], [2, 0, 0], [6, 0], [7, 0, 0, 0]]
        steps += [[1, 0, 3, 2, 0, 5], [3, 0, 1, 0], [6, 0], [7, 0, 0, 0], [3, 0, 0, 0]]
        calls = [new_link(1, 2, 2, 1, 0)] + steps
        self.assertEqual(last([find_failure(1, 2, 2, 1, 0)])[0], len(steps))
        self.assert_lists(calls, [], [])
        self.assert_lists(calls + send_items(0, 2, 2), [3], [2, 3])

    def test_wrongly_acknowledged_numbers(self):
        # An ordered link has no use for what is acknowledged behind the base.
        for link, behind_the_base in ((LINK, [1]), (ORDERED, [1, 2])):
            before = link + send_items(0, 0, 3) + [send_ack(0)]
            for fields, known in (
                ([1, 0, 0], [1, 2]), ([1, 1, 0], behind_the_base), ([0, 0, 1], [0] + behind_the_base), ([3, 0, 0], []),
            ):
                calls = before + forged_ack(0, 0, fields) + [deliver_ack(0, 0, 0)]
                self.assert_lists(calls, [0, 1, 2], known)

    def test_all_120_and_none(self):
        before = [new_link(8, 35, 20, 4, 1)] + send_items(0, 0, 120)
        self.assert_lists(before, list(range(120)), list(range(120)))
        self.assert_lists(before + [recover(0)], [], [])

    def test_each_link_has_its_own(self):
        calls = LINK + ORDERED + send_items(1, 0, 2) + [list_in_transit(0), list_in_transit(1)]
        self.assertEqual(ask(calls)[-2:], [[0, 0], [2, 0, 1, 2, 0, 1]])


class MinimumTimes(unittest.TestCase):
    def assert_times(self, calls, *times):
        self.assertEqual(last(calls + [minimum_times()]), list(times))

    def test_without_links_and_without_items(self):
        self.assert_times([], 0, 0)
        self.assert_times(LINK + ORDERED, 0, 0)

    def test_the_time_of_an_event_and_of_an_anti_message(self):
        # Every other number of these items is smaller or larger than the time.
        self.assert_times(LINK + [send_item(0, [1, 70, 6, 0, 5, 5, -9])], 1, 70, 1, 70)
        self.assert_times(LINK + [send_item(0, [99, 2, 70])], 1, 70, 1, 70)
        self.assert_times(LINK + [send_item(0, EVENT), send_item(0, [2, 1, 4])], 1, 4, 1, 4)
        self.assert_times(LINK + [send_item(0, [2, 1, 6]), send_item(0, EVENT)], 1, 5, 1, 5)

    def test_both_ends_of_a_time(self):
        self.assert_times(LINK + [send_item(0, timed(0, 0))], 1, 0, 1, 0)
        self.assert_times(LINK + [send_item(0, timed(0, 999))], 1, 999, 1, 999)

    def test_an_item_that_waits_in_the_queue(self):
        for link in BOTH:
            self.assert_times(link + send_times(0, [7, 8, 9, 4, 6]), 1, 4, 1, 4)

    def test_delivered_but_not_acknowledged(self):
        for link in BOTH:
            before = link + send_times(0, [3, 8]) + [deliver_frame(0, 0, 0)]
            self.assert_times(before, 1, 8, 1, 3)
            self.assert_times(before + acknowledge(0), 1, 8, 1, 8)

    def test_all_delivered_but_not_acknowledged(self):
        for link in BOTH:
            before = link + send_times(0, [3]) + [deliver_frame(0, 0, 0)]
            self.assert_times(before, 0, 1, 3)
            self.assert_times(before + acknowledge(0), 0, 0)

    def test_out_of_order(self):
        self.assert_times(LINK + OUT_OF_ORDER, 1, 3, 1, 1)
        self.assert_times(LINK + OUT_OF_ORDER + acknowledge(0), 1, 3, 1, 3)
        self.assert_times(ORDERED + OUT_OF_ORDER + acknowledge(0), 1, 1, 1, 1)
        self.assert_times(ORDERED + OUT_OF_ORDER + [deliver_frame(0, 0, 0)], 1, 6, 1, 1)

    def test_a_dropped_content_counts_with_its_time(self):
        for link in BOTH:
            before = link + send_times(0, [3, 4, 9]) + [deliver_frame(0, 0, 0), drop_below(4)]
            self.assertEqual(last(before), [1])
            self.assert_times(before, 1, 4, 1, 3)
            self.assert_times(before + [deliver_frame(0, 0, 0), drop_below(9)], 1, 9, 1, 3)
            self.assert_times(before + acknowledge(0), 1, 4, 1, 4)

    def test_an_acknowledged_item_in_transit(self):
        # Two corruptions of one acknowledgement: what the sender takes for received counts only exactly.
        before = LINK + send_times(0, [3, 4]) + [send_ack(0)] + forged_ack(0, 0, [1, 0, 0]) + [deliver_ack(0, 0, 0)]
        self.assert_times(before, 1, 3, 1, 4)
        before = LINK + send_times(0, [3]) + [send_ack(0)] + forged_ack(0, 0, [1, 0, 0]) + [deliver_ack(0, 0, 0)]
        self.assert_times(before, 1, 3, 0)

    def test_several_links_at_once(self):
        before = LINK + ORDERED + LINK
        before += [send_item(0, timed(0, 50)), send_item(1, timed(0, 20)), send_item(2, timed(0, 40))]
        self.assert_times(before, 1, 20, 1, 20)
        before += [deliver_frame(1, 0, 0)]
        self.assert_times(before, 1, 40, 1, 20)
        before += [deliver_frame(2, 0, 0)]
        self.assert_times(before, 1, 50, 1, 20)
        before += acknowledge(1)
        self.assert_times(before, 1, 50, 1, 40)
        before += [deliver_frame(0, 0, 0)] + acknowledge(2)
        self.assert_times(before, 0, 1, 50)

    def test_all_four_links(self):
        before = [new_link(1, 10, 1, 1, 1)] * 4
        for link in range(4):
            self.assert_times(before + [send_item(link, timed(0, 7))], 1, 7, 1, 7)


if __name__ == "__main__":
    unittest.main()
