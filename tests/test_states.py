import unittest

from asking import (
    EVENT, acknowledge, ask, corrupt_ack, deliver_ack, deliver_frame, drop_below, forged_ack, forged_frame, get_counts,
    last, list_acks, list_frames, lose_ack, lose_frame, new_link, numbered, receiver_state, recover, retransmit,
    send_ack, send_item, send_items, send_times, sender_state, transfer,
)

LINK = [new_link(3, 20, 9, 3, 0)]
ORDERED = [new_link(3, 20, 9, 3, 1)]
BOTH = (LINK, ORDERED)
THREE = send_items(0, 0, 3)


class ListAcks(unittest.TestCase):
    def test_an_empty_channel(self):
        for link in BOTH:
            self.assertEqual(last(link + [list_acks(0)]), [0])

    def test_fields_and_checksum_of_each_in_the_order_of_sending(self):
        for link in BOTH:
            calls = link + THREE + [send_ack(0), deliver_frame(0, 1, 0), send_ack(0), deliver_frame(0, 0, 0)]
            calls += [send_ack(0), list_acks(0)]
            self.assertEqual(last(calls), [3, 4, 0, 0, 0, 291, 4, 0, 1, 0, 293, 4, 2, 0, 0, 293])

    def test_each_has_w_fields(self):
        for w in range(1, 9):
            calls = [new_link(w, 60, 1, 1, 1), send_ack(0), list_acks(0)]
            self.assertEqual(last(calls), [1, w + 1] + [0] * w + [97 * w])

    def test_the_first_field_wraps(self):
        calls = [new_link(1, 3, 1, 1, 1)]
        for number in range(4):
            calls += transfer(0, number) + [send_ack(0), list_acks(0), deliver_ack(0, 0, 0)]
        self.assertEqual(ask(calls)[4::5], [[1, 2, field, 97 + field] for field in (1, 2, 0, 1)])

    def test_the_oldest_disappears_behind_r_later_ones(self):
        before = [new_link(2, 60, 9, 2, 0)] + send_items(0, 0, 2)
        before += [send_ack(0), deliver_frame(0, 0, 0), send_ack(0)]
        self.assertEqual(last(before + [list_acks(0)]), [2, 3, 0, 0, 194, 3, 1, 0, 195])
        before += [deliver_frame(0, 0, 0), send_ack(0)]
        self.assertEqual(last(before + [list_acks(0)]), [2, 3, 1, 0, 195, 3, 2, 0, 196])

    def test_lost_and_delivered_ones_are_gone_and_copies_are_not(self):
        before = LINK + [send_ack(0)] + transfer(0, 0) + [send_ack(0)] + transfer(0, 1) + [send_ack(0)]
        left = {0: [2, 4, 1, 0, 0, 292, 4, 2, 0, 0, 293], 2: [2, 4, 0, 0, 0, 291, 4, 1, 0, 0, 292]}
        for place, rest in left.items():
            self.assertEqual(last(before + [lose_ack(0, place), list_acks(0)]), rest)
            self.assertEqual(last(before + [deliver_ack(0, place, 0), list_acks(0)]), rest)
            self.assertEqual(last(before + [deliver_ack(0, place, 1), list_acks(0)])[0], 3)

    def test_changed_numbers_are_told_as_they_are(self):
        before = LINK + [send_ack(0), send_ack(0)]
        for place in range(4):
            changed = [0, 0, 0, 291]
            changed[place] = -9999
            calls = before + [corrupt_ack(0, 1, place, -9999), list_acks(0)]
            self.assertEqual(last(calls), [2, 4, 0, 0, 0, 291, 4] + changed)

    def test_frames_are_not_among_them(self):
        found = ask(LINK + THREE + [list_acks(0), send_ack(0), list_frames(0), list_acks(0)])
        self.assertEqual([found[4], found[6][0], found[7][0]], [[0], 3, 1])


class SenderState(unittest.TestCase):
    def test_a_new_link(self):
        for link in BOTH:
            self.assertEqual(last(link + [sender_state(0)]), [0, 0, 0])

    def test_the_window_fills_and_then_the_queue(self):
        for count in range(6):
            window = min(count, 3)
            calls = LINK + send_items(0, 0, count) + [sender_state(0)]
            self.assertEqual(last(calls), [0, window, count - window] + [0, 1] * window)

    def test_receiving_alone_acknowledges_nothing(self):
        calls = LINK + THREE + [deliver_frame(0, 0, 0), send_ack(0), sender_state(0)]
        self.assertEqual(last(calls), [0, 3, 0] + [0, 1] * 3)

    def test_numbers_received_out_of_order(self):
        for link in BOTH:
            calls = link + send_items(0, 0, 5) + [deliver_frame(0, 2, 0), deliver_frame(0, 1, 0)] + acknowledge(0)
            self.assertEqual(last(calls + [sender_state(0)]), [0, 3, 2, 0, 1, 1, 1, 1, 1])
            calls += [deliver_frame(0, 0, 0)] + acknowledge(0)
            self.assertEqual(last(calls + [sender_state(0)]), [3, 2, 0, 0, 1, 0, 1])

    def test_the_base_leaves_and_an_acknowledged_number_behind_it_stays(self):
        calls = LINK + send_items(0, 0, 5) + [deliver_frame(0, 0, 0), deliver_frame(0, 1, 0)] + acknowledge(0)
        self.assertEqual(last(calls + [sender_state(0)]), [1, 3, 1, 0, 1, 1, 1, 0, 1])

    def test_an_emptied_window(self):
        calls = LINK + transfer(0, 0) + transfer(0, 1) + acknowledge(0) + [sender_state(0)]
        self.assertEqual(last(calls), [2, 0, 0])

    def test_contents_that_were_dropped(self):
        # Number 1 is acknowledged, number 2 is not received.
        before = LINK + send_times(0, [3, 4, 9]) + [deliver_frame(0, 1, 0)] + acknowledge(0) + [deliver_frame(0, 0, 0)]
        for t, window in ((3, [0, 1, 1, 1, 0, 1]), (4, [0, 0, 1, 1, 0, 1]), (5, [0, 0, 1, 0, 0, 1])):
            self.assertEqual(last(before + [drop_below(t), sender_state(0)]), [0, 3, 0] + window, t)

    def test_the_largest_window_and_queue(self):
        calls = [new_link(8, 200, 20, 12, 1)] + send_items(0, 0, 120) + [sender_state(0)]
        self.assertEqual(last(calls), [0, 8, 112] + [0, 1] * 8)

    def test_one_behind_the_other_for_each_link(self):
        calls = LINK + ORDERED + send_items(0, 0, 2) + send_items(1, 0, 1) + [sender_state(0), sender_state(1)]
        self.assertEqual(ask(calls)[-2:], [[0, 2, 0, 0, 1, 0, 1], [0, 1, 0, 0, 1]])


class ReceiverState(unittest.TestCase):
    def test_a_new_link(self):
        for link in BOTH:
            self.assertEqual(last(link + [receiver_state(0)]), [0, 0])

    def test_numbers_received_above_the_smallest_missing(self):
        for received, state in (
            ((0,), [1, 0]), ((1,), [0, 1, 1]), ((2,), [0, 1, 2]), ((2, 1), [0, 2, 1, 2]), ((0, 2), [1, 1, 2]),
            ((2, 0), [1, 1, 2]), ((0, 1), [2, 0]), ((2, 1, 0), [3, 0]), ((1, 1), [0, 1, 1]),
        ):
            for link in BOTH:
                calls = link + THREE + [deliver_frame(0, n, 1) for n in received] + [receiver_state(0)]
                self.assertEqual(last(calls), state, received)

    def test_increasing_up_to_the_last_number_of_a_large_window(self):
        calls = [new_link(8, 200, 20, 1, 1)] + send_items(0, 0, 8)
        calls += [deliver_frame(0, n, 1) for n in (7, 3, 5, 1)] + [receiver_state(0)]
        self.assertEqual(last(calls), [0, 4, 1, 3, 5, 7])
        self.assertEqual(last(calls[:-1] + [deliver_frame(0, 0, 1), receiver_state(0)]), [2, 3, 3, 5, 7])

    def test_numbers_are_not_wrapped(self):
        calls = [new_link(2, 4, 1, 1, 1)]
        for number in range(6):
            calls += transfer(0, number) + acknowledge(0)
        self.assertEqual(last(calls + [receiver_state(0)]), [6, 0])

    def test_a_number_that_was_never_sent(self):
        calls = LINK + send_items(0, 0, 1) + forged_frame(0, 0, 2, numbered(0))
        self.assertEqual(last(calls + [deliver_frame(0, 0, 0), receiver_state(0)]), [0, 1, 2])

    def test_corrupted_and_empty_frames_are_not_received(self):
        calls = LINK + send_times(0, [3, 9]) + [deliver_frame(0, 0, 0), drop_below(5), retransmit(0, 0)]
        calls += forged_frame(0, 1, 2, []) + [deliver_frame(0, 1, 0), receiver_state(0)]
        self.assertEqual(ask(calls)[-2:], [[1, 0], [1, 0]])


class GetCounts(unittest.TestCase):
    def test_without_links(self):
        self.assertEqual(ask([get_counts()]), [[0]])

    def test_new_links(self):
        for count in range(1, 5):
            calls = [new_link(2, 6, 3, 2, 1)] * count + [get_counts()]
            self.assertEqual(last(calls), [count] + [0] * 6 * count)

    def test_items_in_window_and_queue(self):
        calls = LINK + send_items(0, 0, 5) + [get_counts()]
        self.assertEqual(last(calls), [1, 5, 0, 3, 0, 3, 0])

    def test_a_received_item_counts_when_it_is_delivered(self):
        for link, delivered in ((LINK, 1), (ORDERED, 0)):
            calls = link + THREE + [deliver_frame(0, 1, 0), get_counts(), deliver_frame(0, 0, 0), get_counts()]
            found = ask(calls)
            self.assertEqual(found[-3], [1, 3, delivered, 2, 0, 3, 0])
            self.assertEqual(found[-1], [1, 3, 2, 1, 0, 3, 0])

    def test_frames_lost_sent_again_and_disappeared(self):
        before = [new_link(3, 60, 2, 1, 0)] + THREE
        self.assertEqual(last(before + [get_counts()]), [1, 3, 0, 2, 0, 3, 0])
        before += [retransmit(0, 0), lose_frame(0, 0), deliver_frame(0, 0, 1)]
        self.assertEqual(last(before + [get_counts()]), [1, 3, 1, 1, 0, 4, 0])

    def test_acknowledgements(self):
        before = [new_link(3, 60, 2, 2, 0)] + [send_ack(0)] * 3
        self.assertEqual(last(before + [get_counts()]), [1, 0, 0, 0, 2, 0, 3])
        self.assertEqual(last(before + [lose_ack(0, 0), deliver_ack(0, 0, 1), get_counts()]), [1, 0, 0, 0, 1, 0, 3])
        self.assertEqual(last(before + [deliver_ack(0, 0, 0), get_counts()]), [1, 0, 0, 0, 1, 0, 3])

    def test_frames_for_items_of_the_queue(self):
        calls = LINK + send_items(0, 0, 5) + [deliver_frame(0, 0, 0)] * 2 + acknowledge(0) + [get_counts()]
        self.assertEqual(last(calls), [1, 5, 2, 3, 0, 5, 1])

    def test_several_links_in_their_order(self):
        calls = LINK + ORDERED + [new_link(1, 2, 1, 1, 0)] + transfer(2, 0) + send_items(0, 0, 4)
        calls += [send_ack(1), send_ack(1), send_ack(2), send_item(1, EVENT), get_counts()]
        self.assertEqual(last(calls), [3, 4, 0, 3, 0, 3, 0, 1, 0, 1, 2, 1, 2, 1, 1, 0, 1, 1, 1])

    def test_refused_calls_are_not_counted(self):
        calls = LINK + send_items(0, 0, 1) + [retransmit(0, 1), send_item(0, []), deliver_ack(0, 0, 0), get_counts()]
        self.assertEqual(last(calls), [1, 1, 0, 1, 0, 1, 0])

    def test_what_is_delivered_wrongly_counts(self):
        calls = LINK + send_items(0, 0, 1) + forged_frame(0, 0, 2, numbered(0)) + [deliver_frame(0, 0, 0)]
        calls += [retransmit(0, 0), deliver_frame(0, 0, 0), get_counts()]
        self.assertEqual(last(calls), [1, 1, 2, 0, 0, 2, 0])

    def test_what_recover_sends(self):
        calls = LINK + send_items(0, 0, 4) + [recover(0), get_counts()]
        self.assertEqual(ask(calls)[-2:], [[2, 4], [1, 4, 4, 4, 0, 8, 2]])


class Looking(unittest.TestCase):
    def test_looking_changes_nothing(self):
        states = [list_frames(0), list_acks(0), sender_state(0), receiver_state(0), get_counts()]
        for link in BOTH:
            before = link + send_items(0, 0, 5) + [deliver_frame(0, 1, 0), send_ack(0)] + forged_ack(0, 0, [0, 1, 1])
            before += [deliver_ack(0, 0, 1)]
            found = ask(before + states * 3)[len(before):]
            self.assertEqual(found[:5], found[5:10])
            self.assertEqual(found[:5], found[10:])


if __name__ == "__main__":
    unittest.main()
