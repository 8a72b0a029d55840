import unittest

from asking import (
    BIG, acknowledge, ask, assert_refused, corrupt_ack, deliver_ack, deliver_frame, forged_ack, last, list_frames,
    lose_ack, new_link, numbered, retransmit, send_ack, send_item, send_items, transfer,
)

LINK = [new_link(3, 20, 9, 3, 0)]
THREE = send_items(0, 0, 3)


class SendAck(unittest.TestCase):
    def test_before_anything_was_received(self):
        for w in range(1, 9):
            self.assertEqual(last([new_link(w, 60, 1, 1, 0), send_ack(0)]), [w] + [0] * w)

    def test_what_was_received_above_the_smallest_missing_number(self):
        for received, fields in (
            ((0,), [1, 0, 0]), ((1,), [0, 1, 0]), ((2,), [0, 0, 1]), ((1, 2), [0, 1, 1]), ((0, 2), [1, 1, 0]),
            ((2, 0), [1, 1, 0]), ((0, 1), [2, 0, 0]), ((2, 1, 0), [3, 0, 0]),
        ):
            for o in (0, 1):
                calls = [new_link(3, 20, 9, 3, o)] + THREE + [deliver_frame(0, n, 1) for n in received] + [send_ack(0)]
                self.assertEqual(last(calls), [3] + fields, received)

    def test_the_first_field_wraps(self):
        calls = [new_link(1, 3, 1, 1, 1)]
        for number in range(7):
            calls += transfer(0, number) + acknowledge(0)
        self.assertEqual(ask(calls)[3::4], [[1, (number + 1) % 3] for number in range(7)])

    def test_nothing_is_received_or_sent_by_it(self):
        calls = LINK + THREE + [list_frames(0), send_ack(0), send_ack(0), list_frames(0)]
        found = ask(calls)
        self.assertEqual(found[4], found[7])


class Disappearing(unittest.TestCase):
    def test_it_stays_until_r_later_ones_were_sent(self):
        for r in (1, 2, 3, 12):
            before = [new_link(1, 60, 1, r, 0)] + transfer(0, 0) + [send_ack(0)] * r
            self.assertEqual(last(before + [lose_ack(0, r - 1)]), [0])
            self.assertEqual(last(before + [lose_ack(0, r)]), [-5])
            self.assertEqual(last(before + [send_ack(0), lose_ack(0, r - 1)]), [0])
            self.assertEqual(last(before + [send_ack(0), lose_ack(0, r)]), [-5])

    def test_the_oldest_goes(self):
        before = [new_link(2, 60, 9, 2, 0)] + send_items(0, 0, 2) + [send_ack(0), deliver_frame(0, 0, 0), send_ack(0)]
        self.assertEqual(ask(before + [deliver_ack(0, 0, 1), deliver_ack(0, 1, 1)])[-2:], [[2, 0, 0], [2, 1, 0]])
        before += [deliver_frame(0, 0, 0), send_ack(0)]
        self.assertEqual(ask(before + [deliver_ack(0, 0, 1), deliver_ack(0, 1, 1)])[-2:], [[2, 1, 0], [2, 2, 0]])

    def test_lost_and_delivered_ones_count(self):
        for gone in (lose_ack(0, 1), deliver_ack(0, 1, 0)):
            before = [new_link(1, 60, 1, 3, 0), send_ack(0)] + [send_ack(0), gone] * 2
            self.assertEqual(last(before + [lose_ack(0, 0)]), [0])
            self.assertEqual(ask(before + [send_ack(0), lose_ack(0, 0), lose_ack(0, 0)])[-2:], [[0], [-5]])

    def test_one_that_stays_is_as_old_as_before(self):
        before = [new_link(1, 60, 1, 1, 0)] + send_items(0, 0, 1)
        before += [send_ack(0), deliver_ack(0, 0, 1), deliver_frame(0, 0, 0), send_ack(0), lose_ack(0, 1)]
        self.assertEqual(ask(before + [deliver_ack(0, 0, 0)])[-2:], [[-5], [2, 1, 0]])

    def test_frames_and_other_links_do_not_count(self):
        before = [new_link(1, 60, 9, 1, 0), new_link(1, 60, 1, 1, 0), send_ack(0), send_ack(1), send_ack(1)]
        before += send_items(0, 0, 1) + [retransmit(0, 0)] * 3
        self.assertEqual(last(before + [lose_ack(0, 0)]), [0])


class DeliverAck(unittest.TestCase):
    def test_the_base_goes_on_and_the_queue_moves_up(self):
        before = LINK + send_items(0, 0, 8) + [deliver_frame(0, 0, 0)] * 2
        found = ask(before + acknowledge(0) + [list_frames(0)])
        self.assertEqual(found[-3:-1], [[3, 2, 0, 0], [2, 2, 2]])
        self.assertEqual(found[-1], [3, 5, 2, 3, 0, 5, 416, 5, 3, 4, 0, 5, 419, 5, 4, 5, 0, 5, 422])

    def test_not_more_than_the_queue_has(self):
        for waiting in range(5):
            calls = LINK + send_items(0, 0, 3 + waiting) + [deliver_frame(0, 0, 0)] * 3 + acknowledge(0)
            self.assertEqual(last(calls), [2, 3, min(waiting, 3)])

    def test_a_number_above_is_acknowledged_and_the_base_waits(self):
        before = LINK + send_items(0, 0, 5) + [deliver_frame(0, 1, 0), deliver_frame(0, 1, 0)] + acknowledge(0)
        self.assertEqual(last(before), [2, 0, 0])
        self.assertEqual(ask(before + [retransmit(0, n) for n in range(4)])[-4:], [[1], [-6], [-6], [-6]])
        self.assertEqual(ask(before + [deliver_frame(0, 0, 0)] + acknowledge(0))[-2:], [[3, 3, 0, 0], [2, 3, 2]])

    def test_the_base_passes_over_what_was_acknowledged_before(self):
        before = LINK + THREE + [deliver_frame(0, 1, 0)] + acknowledge(0)
        before += [send_ack(0)] + forged_ack(0, 0, [1, 0, 0]) + [deliver_ack(0, 0, 0)]
        self.assertEqual(last(before), [2, 2, 0])

    def test_y_itself_is_not_acknowledged(self):
        before = LINK + THREE + [send_ack(0)] + forged_ack(0, 0, [1, 1, 0]) + [deliver_ack(0, 0, 0)]
        self.assertEqual(last(before), [2, 1, 0])
        self.assertEqual(ask(before + [retransmit(0, n) for n in range(3)])[-3:], [[-6], [1], [-6]])

    def test_only_exactly_1_acknowledges(self):
        for field in (0, 2, -1, 3, 40000):
            before = LINK + THREE + [send_ack(0)] + forged_ack(0, 0, [0, field, 1]) + [deliver_ack(0, 0, 0)]
            self.assertEqual(last(before), [2, 0, 0])
            self.assertEqual(ask(before + [retransmit(0, n) for n in range(3)])[-3:], [[1], [1], [-6]])

    def test_numbers_not_yet_in_the_window_are_not_acknowledged(self):
        # Number 3 enters the window only behind this acknowledgement, whose last field stands for it.
        before = LINK + send_items(0, 0, 5) + [send_ack(0)] + forged_ack(0, 0, [1, 0, 1]) + [deliver_ack(0, 0, 0)]
        self.assertEqual(last(before), [2, 1, 1])
        self.assertEqual(ask(before + [retransmit(0, n) for n in range(5)])[-5:], [[-6], [1], [1], [1], [-6]])

    def test_numbers_never_sent_are_not_acknowledged(self):
        before = LINK + send_items(0, 0, 1) + [send_ack(0)] + forged_ack(0, 0, [0, 1, 1]) + [deliver_ack(0, 0, 0)]
        self.assertEqual(last(before), [2, 0, 0])
        self.assertEqual(ask(before + send_items(0, 1, 2) + [retransmit(0, 1), retransmit(0, 2)])[-2:], [[1], [1]])

    def test_the_numbers_that_the_first_field_may_stand_for(self):
        # The window is 4 and 5, and 6 would enter next; M is 5.
        before = [new_link(3, 5, 1, 1, 0)]
        for number in range(4):
            before += transfer(0, number) + acknowledge(0)
        before += send_items(0, 4, 2) + [send_ack(0)]
        for field, status, base in ((4, 2, 4), (0, 2, 5), (1, 2, 6), (2, 1, 4), (3, 1, 4), (5, 1, 4), (-1, 1, 4)):
            calls = before + forged_ack(0, 0, [field, 0, 0]) + [deliver_ack(0, 0, 0)]
            self.assertEqual(last(calls), [status, base, 0], field)

    def test_an_empty_window(self):
        for field, status in ((0, 2), (1, 1), (19, 1)):
            calls = LINK + [send_ack(0)] + forged_ack(0, 0, [field, 1, 1]) + [deliver_ack(0, 0, 0)]
            self.assertEqual(last(calls), [status, 0, 0])

    def test_an_ignored_one_acknowledges_nothing(self):
        before = LINK + send_items(0, 0, 4) + [send_ack(0)] + forged_ack(0, 0, [5, 1, 1]) + [deliver_ack(0, 0, 0)]
        self.assertEqual(ask(before + [retransmit(0, n) for n in range(3)])[-4:], [[1, 0, 0], [1], [1], [1]])

    def test_an_old_one_acknowledges_nothing(self):
        before = LINK + [send_ack(0)] + transfer(0, 0) + [send_ack(0), deliver_ack(0, 1, 0), deliver_ack(0, 0, 0)]
        self.assertEqual(ask(before)[-2:], [[2, 1, 0], [1, 1, 0]])

    def test_one_that_stays_comes_twice(self):
        before = LINK + send_items(0, 0, 4) + [deliver_frame(0, 0, 0), send_ack(0)]
        calls = before + [deliver_ack(0, 0, 1), deliver_ack(0, 0, 0), deliver_ack(0, 0, 0)]
        self.assertEqual(ask(calls)[-3:], [[2, 1, 1], [2, 1, 0], [-5]])

    def test_the_copy_stays_in_its_place(self):
        before = LINK + [send_ack(0)] + transfer(0, 0) + [send_ack(0)]
        calls = before + [deliver_ack(0, 0, 1), deliver_ack(0, 1, 0), deliver_ack(0, 0, 0), deliver_ack(0, 0, 0)]
        self.assertEqual(ask(calls)[-4:], [[2, 0, 0], [2, 1, 0], [1, 1, 0], [-5]])

    def test_a_corrupted_one_goes_or_stays_as_well(self):
        before = LINK + transfer(0, 0) + [send_ack(0), corrupt_ack(0, 0, 1, 1)]
        calls = before + [deliver_ack(0, 0, 1), deliver_ack(0, 0, 0), deliver_ack(0, 0, 0)]
        self.assertEqual(ask(calls)[-3:], [[0, 0, 0], [0, 0, 0], [-5]])

    def test_the_first_item_of_the_queue_has_the_next_number(self):
        before = [new_link(1, 3, 2, 1, 1)] + send_items(0, 0, 3) + [deliver_frame(0, 0, 0)] + acknowledge(0)
        self.assertEqual(ask(before + [list_frames(0)])[-2:], [[2, 1, 1], [1, 5, 1] + numbered(1) + [413]])

    def test_no_such_acknowledgement(self):
        before = LINK + transfer(0, 0) + [send_ack(0), send_ack(0)]
        for packet in (-1, -2, 2, 3, -BIG, BIG):
            for stays in (0, 1):
                assert_refused(self, before, deliver_ack(0, packet, stays), -5)
        assert_refused(self, LINK, deliver_ack(0, 0, 0), -5)

    def test_stays_out_of_range_comes_first(self):
        before = LINK + transfer(0, 0) + [send_ack(0)]
        for stays in (-1, 2, -BIG, BIG):
            for packet in (-1, 0, 1):
                assert_refused(self, before, deliver_ack(0, packet, stays), -1)


class LoseAck(unittest.TestCase):
    # Three acknowledgements, which ask for the numbers 0, 1 and 2.
    BEFORE = LINK + [send_ack(0)] + transfer(0, 0) + [send_ack(0)] + transfer(0, 1) + [send_ack(0)]

    def test_one_goes_and_the_others_move_up(self):
        for packet, bases in ((0, [1, 2]), (1, [0, 2]), (2, [0, 1])):
            found = ask(self.BEFORE + [lose_ack(0, packet)] + [deliver_ack(0, 0, 0)] * 3)[-4:]
            self.assertEqual(found, [[0], [2, bases[0], 0], [2, bases[1], 0], [-5]])

    def test_no_such_acknowledgement(self):
        for packet in (-1, -3, 3, -BIG, BIG):
            assert_refused(self, self.BEFORE, lose_ack(0, packet), -5)
        assert_refused(self, LINK, lose_ack(0, 0), -5)


class CorruptAck(unittest.TestCase):
    BEFORE = LINK + transfer(0, 0) + [send_ack(0)]
    RIGHT = [1, 0, 0, 292]

    def test_each_field_and_the_checksum(self):
        for place in range(4):
            calls = self.BEFORE + [corrupt_ack(0, 0, place, 5), deliver_ack(0, 0, 0)]
            self.assertEqual(ask(calls)[-2:], [[0], [0, 0, 0]], place)

    def test_changed_and_changed_back(self):
        for place, right in enumerate(self.RIGHT):
            calls = self.BEFORE + [corrupt_ack(0, 0, place, 5000), corrupt_ack(0, 0, place, right)]
            self.assertEqual(last(calls + [deliver_ack(0, 0, 0)]), [2, 1, 0], place)

    def test_the_same_number_again_is_no_change(self):
        for place, right in enumerate(self.RIGHT):
            calls = self.BEFORE + [corrupt_ack(0, 0, place, right), deliver_ack(0, 0, 0)]
            self.assertEqual(last(calls), [2, 1, 0])

    def test_the_number_of_fields_is_w(self):
        for w in range(1, 9):
            before = [new_link(w, 60, 1, 1, 0), send_ack(0)]
            self.assertEqual(ask(before + [corrupt_ack(0, 0, w, 97 * w), deliver_ack(0, 0, 0)])[2:], [[0], [2, 0, 0]])
            self.assertEqual(last(before + [corrupt_ack(0, 0, w + 1, 5)]), [-1])

    def test_what_was_answered_before_does_not_change(self):
        self.assertEqual(ask(self.BEFORE + [corrupt_ack(0, 0, 1, 5)])[3], [3, 1, 0, 0])

    def test_both_ends_of_z_and_the_next_numbers(self):
        for place in (0, 2, 3):
            for number in (-9999, 99999):
                self.assertEqual(last(self.BEFORE + [corrupt_ack(0, 0, place, number)]), [0])
                calls = self.BEFORE + [corrupt_ack(0, 0, place, number), deliver_ack(0, 0, 0)]
                self.assertEqual(last(calls), [0, 0, 0])
            for number in (-10000, 100000, -BIG, BIG):
                assert_refused(self, self.BEFORE, corrupt_ack(0, 0, place, number), -1)

    def test_the_next_numbers_on_both_sides_of_i(self):
        for place in (-1, -2, 4, 5, -BIG, BIG):
            assert_refused(self, self.BEFORE, corrupt_ack(0, 0, place, 1), -1)

    def test_no_such_acknowledgement_comes_first(self):
        for packet in (-1, 1, 2, -BIG, BIG):
            for place, number in ((0, 7), (-1, 7), (4, 7), (0, 100000), (9, -10000)):
                assert_refused(self, self.BEFORE, corrupt_ack(0, packet, place, number), -5)

    def test_frames_are_not_changed_by_it(self):
        calls = LINK + THREE + [send_ack(0), list_frames(0), corrupt_ack(0, 0, 0, 7), lose_ack(0, 0), list_frames(0)]
        found = ask(calls)
        self.assertEqual(found[5], found[8])

    def test_a_changed_one_is_changed_for_every_time_it_comes(self):
        calls = self.BEFORE + [corrupt_ack(0, 0, 0, 9), deliver_ack(0, 0, 1), deliver_ack(0, 0, 1)]
        calls += [corrupt_ack(0, 0, 0, 1), deliver_ack(0, 0, 1), send_item(0, numbered(1))]
        self.assertEqual(ask(calls)[-5:], [[0, 0, 0], [0, 0, 0], [0], [2, 1, 0], [1, 1]])


if __name__ == "__main__":
    unittest.main()
