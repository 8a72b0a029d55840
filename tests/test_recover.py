import unittest

from asking import (
    acknowledge, ask, assert_refused, corrupt_ack, corrupt_frame, deliver_ack, deliver_frame, drop_below, forged_ack,
    forged_frame, get_counts, last, list_acks, list_delivered, list_frames, list_in_transit, lose_ack, lose_frame,
    minimum_times, new_link, numbered, receiver_state, recover, retransmit, send_ack, send_item, send_items,
    send_times, sender_state, transfer,
)

LINK = [new_link(3, 20, 9, 3, 0)]
ORDERED = [new_link(3, 20, 9, 3, 1)]
BOTH = (LINK, ORDERED)


class Recover(unittest.TestCase):
    def assert_recovered(self, before, rounds, delivered, item_count):
        """Behind it everything is delivered and acknowledged."""
        found = ask(before + [recover(0), sender_state(0), receiver_state(0), list_in_transit(0), recover(0)])
        self.assertEqual(found[-5], [rounds, delivered])
        self.assertEqual(found[-4:-1], [[item_count, 0, 0], [item_count, 0], [0, 0]])
        self.assertEqual(found[-1], [0, 0])

    def test_an_empty_window(self):
        for link in BOTH:
            self.assert_recovered(link, 0, 0, 0)
            before = link + transfer(0, 0) + transfer(0, 1) + acknowledge(0)
            self.assert_recovered(before, 0, 0, 2)
            self.assertEqual(ask(before + [get_counts(), recover(0), get_counts()])[-3::2], [[1, 2, 2, 0, 0, 2, 1]] * 2)

    def test_one_round_for_the_window(self):
        for link in BOTH:
            for count in (1, 2, 3):
                self.assert_recovered(link + send_items(0, 0, count), 1, count, count)

    def test_items_in_the_queue_take_further_rounds(self):
        for link in BOTH:
            for count, rounds in ((4, 2), (6, 2), (7, 3), (10, 4)):
                self.assert_recovered(link + send_items(0, 0, count), rounds, count, count)

    def test_120_items(self):
        for w, m, rounds in ((1, 2, 120), (7, 14, 18), (8, 16, 15)):
            for o in (0, 1):
                self.assert_recovered([new_link(w, m, 1, 1, o)] + send_items(0, 0, 120), rounds, 120, 120)

    def test_lost_frames_and_acknowledgements(self):
        for link in BOTH:
            before = link + send_items(0, 0, 5) + [lose_frame(0, 2), lose_frame(0, 0), deliver_frame(0, 0, 0)]
            self.assert_recovered(before, 2, 5 if link == ORDERED else 4, 5)
            before += [send_ack(0), lose_ack(0, 0)]
            self.assert_recovered(before, 2, 5 if link == ORDERED else 4, 5)

    def test_changed_frames_and_acknowledgements(self):
        for link in BOTH:
            before = link + send_items(0, 0, 2) + [corrupt_frame(0, 0, 0, 1), corrupt_frame(0, 1, 4, 7)]
            before += [deliver_frame(0, 0, 0), send_ack(0), corrupt_ack(0, 0, 0, 2), deliver_ack(0, 0, 1)]
            self.assert_recovered(before, 1, 2, 2)

    def test_all_delivered_but_nothing_acknowledged(self):
        for link in BOTH:
            self.assert_recovered(link + transfer(0, 0) + transfer(0, 1), 1, 0, 2)

    def test_what_waited_for_delivery_counts(self):
        before = ORDERED + send_items(0, 0, 3) + [deliver_frame(0, 2, 0), deliver_frame(0, 1, 0)] + acknowledge(0)
        self.assert_recovered(before, 1, 3, 3)
        self.assert_recovered(LINK + before[1:], 1, 1, 3)

    def test_only_what_is_delivered_by_it_counts(self):
        before = LINK + transfer(0, 0) + acknowledge(0) + transfer(0, 1) + send_items(0, 2, 1)
        self.assert_recovered(before, 1, 1, 3)

    def test_the_items_and_their_order(self):
        for link in BOTH:
            calls = link + send_items(0, 0, 7) + [recover(0), list_delivered(0, 0)]
            self.assertEqual(last(calls), [7] + [part for n in range(7) for part in [n, 3] + numbered(n)])

    def test_in_increasing_order_behind_what_came_out_of_order(self):
        calls = LINK + send_items(0, 0, 3) + [deliver_frame(0, 1, 0), recover(0), list_delivered(0, 0)]
        self.assertEqual(last(calls)[1::5], [1, 0, 2])

    def test_acknowledged_numbers_are_not_sent_again(self):
        for link in BOTH:
            before = link + send_items(0, 0, 3) + [deliver_frame(0, 1, 0)] + acknowledge(0)
            self.assertEqual(ask(before + [recover(0), get_counts()])[-1], [1, 3, 3, 2, 0, 5, 2])

    def test_received_but_not_acknowledged_numbers_are_sent_again(self):
        before = LINK + send_items(0, 0, 3) + [deliver_frame(0, 1, 0)]
        self.assertEqual(ask(before + [recover(0), get_counts()])[-1], [1, 3, 3, 2, 0, 6, 1])

    def test_its_own_packets_are_removed_and_the_others_stay(self):
        for link in BOTH:
            before = link + send_items(0, 0, 3) + [send_ack(0)]
            found = ask(before + [list_frames(0), list_acks(0), recover(0), list_frames(0), list_acks(0)])[-5:]
            self.assertEqual(found[:2], found[3:])
            self.assertEqual([found[0][0], found[1][0]], [3, 1])

    def test_frames_for_items_of_the_queue_stay(self):
        calls = LINK + send_items(0, 0, 4) + [lose_frame(0, 0)] * 3 + [recover(0), list_frames(0)]
        self.assertEqual(ask(calls)[-2:], [[2, 4], [1, 5, 3, 4, 0, 5, 419]])

    def test_other_packets_grow_old_by_it(self):
        before = [new_link(2, 60, 3, 2, 0)] + send_items(0, 0, 2) + [send_ack(0), send_ack(0)]
        found = ask(before + [recover(0), list_frames(0), list_acks(0)])
        self.assertEqual(found[-2:], [[1, 5, 1, 2, 0, 5, 413], [1, 3, 0, 0, 194]])

    def test_lifetimes_of_one(self):
        for o in (0, 1):
            before = [new_link(8, 16, 1, 1, o)] + send_items(0, 0, 20) + [send_ack(0)]
            self.assert_recovered(before, 3, 20, 20)
            self.assertEqual(ask(before + [recover(0), get_counts()])[-1], [1, 20, 20, 0, 0, 40, 4])

    def test_dropped_contents(self):
        for link in BOTH:
            before = link + send_times(0, [3, 4, 9, 8]) + [deliver_frame(0, 0, 0)] * 2 + [drop_below(8)]
            self.assertEqual(last(before), [2])
            self.assert_recovered(before, 2, 2, 4)
            times = ask(before + [minimum_times(), recover(0), minimum_times()])
            self.assertEqual([times[-3], times[-1]], [[1, 8, 1, 3], [0, 0]])

    def test_all_contents_dropped(self):
        for link in BOTH:
            before = link + send_times(0, [3, 4]) + [deliver_frame(0, 0, 0)] * 2 + [drop_below(1000)]
            self.assert_recovered(before, 1, 0, 2)

    def test_another_link_is_not_touched(self):
        states = [list_frames(1), list_acks(1), sender_state(1), receiver_state(1), list_in_transit(1)]
        before = LINK + ORDERED + send_items(0, 0, 4) + send_items(1, 0, 4) + [deliver_frame(1, 1, 0), send_ack(1)]
        found = ask(before + states + [recover(0)] + states)[len(before):]
        self.assertEqual(found[5], [2, 4])
        self.assertEqual(found[:5], found[6:])

    def test_items_sent_behind_it(self):
        for link in BOTH:
            before = link + send_items(0, 0, 4) + [recover(0)]
            self.assertEqual(last(before + [send_item(0, numbered(4))]), [4, 1])
            self.assert_recovered(before + send_items(0, 4, 3), 1, 3, 7)


class NeverEmpty(unittest.TestCase):
    def test_121_rounds_behind_two_corruptions_of_one_acknowledgement(self):
        # The sender has taken the numbers 0 and 1 for received, and the receiver still waits for number 0.
        for o in (0, 1):
            before = [new_link(2, 6, 3, 2, o)] + send_items(0, 0, 3) + [send_ack(0)]
            before += forged_ack(0, 0, [2, 0]) + [deliver_ack(0, 0, 0)]
            found = ask(before + [recover(0), get_counts(), sender_state(0), receiver_state(0), recover(0)])
            self.assertEqual(found[-6], [2, 2, 1])
            self.assertEqual(found[-5:-3], [[121, 0], [1, 3, 0, 0, 0, 3 + 121, 1 + 121]])
            self.assertEqual(found[-3:], [[2, 1, 0, 0, 1], [0, 0], [121, 0]])

    def test_what_it_delivers_all_the_same(self):
        # Number 0 is taken for received; number 1 is not, and is received in the first round.
        for link, delivered in ((LINK, 2), (ORDERED, 0)):
            before = link + send_items(0, 0, 3) + [send_ack(0)] + forged_ack(0, 0, [1, 0, 0]) + [deliver_ack(0, 0, 0)]
            found = ask(before + [recover(0), sender_state(0), receiver_state(0)])
            self.assertEqual(found[-3:], [[121, delivered], [1, 2, 0, 0, 1, 0, 1], [0, 2, 1, 2]])

    def test_a_number_taken_for_another(self):
        # Number 2 was delivered ahead of time, with a wrong item, and then counts as received.
        for link in BOTH:
            before = link + send_items(0, 0, 3) + forged_frame(0, 0, 2, numbered(0)) + [deliver_frame(0, 0, 0)]
            found = ask(before + [recover(0), list_in_transit(0), list_delivered(0, 2)])
            self.assertEqual(found[-3], [1, 3 if link == ORDERED else 2])
            self.assertEqual(found[-2], [0, 0])


class NotSafe(unittest.TestCase):
    def test_each_condition_alone_and_both(self):
        for parameters in ((2, 5, 3, 2), (3, 7, 1, 3), (2, 3, 9, 1), (1, 2, 2, 1), (8, 9, 20, 12)):
            for o in (0, 1):
                link = [new_link(*parameters, o)]
                assert_refused(self, link, recover(0), -9)
                assert_refused(self, link + send_items(0, 0, 12) + [send_ack(0), retransmit(0, 0)], recover(0), -9)

    def test_m_one_below_and_at_each_bound(self):
        for w, bound, k, r in ((2, 6, 3, 2), (3, 10, 1, 3), (8, 35, 20, 4), (8, 97, 20, 12)):
            self.assertEqual(last([new_link(w, bound - 1, k, r, 1)] + send_items(0, 0, 2) + [recover(0)]), [-9])
            self.assertEqual(last([new_link(w, bound, k, r, 1)] + send_items(0, 0, 2) + [recover(0)]), [1, 2])

    def test_another_link_may_be_unsafe(self):
        calls = [new_link(1, 2, 2, 1, 0)] + LINK + send_items(1, 0, 2) + [recover(1), recover(0)]
        self.assertEqual(ask(calls)[-2:], [[1, 2], [-9]])


if __name__ == "__main__":
    unittest.main()
