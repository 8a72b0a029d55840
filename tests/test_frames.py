import unittest

from asking import (
    ANTI_MESSAGE, BIG, EVENT, acknowledge, ask, assert_refused, corrupt_frame, deliver_ack, deliver_frame, last,
    list_frames, lose_frame, new_link, numbered, retransmit, send_ack, send_item, send_items, transfer,
)
from wrapwindow.link import Link
from wrapwindow.links import corrupt_frame as corrupt_on
from wrapwindow.links import deliver_frame as deliver_to
from wrapwindow.links import send_item as send_on

LINK = [new_link(3, 20, 9, 3, 0)]
ORDERED = [new_link(3, 20, 9, 3, 1)]
THREE = send_items(0, 0, 3)


def first_fields(answer):
    """The first field of each frame that list_frames tells."""
    found = []
    place = 1
    while place < len(answer):
        found.append(answer[place + 1])
        place += 1 + answer[place]
    return found


class ListFrames(unittest.TestCase):
    def test_an_empty_channel(self):
        self.assertEqual(last(LINK + [list_frames(0)]), [0])

    def test_fields_and_checksum_of_each(self):
        calls = LINK + [send_item(0, EVENT), send_item(0, ANTI_MESSAGE), list_frames(0)]
        self.assertEqual(last(calls), [2, 9, 0, 1, 5, 6, 0, 0, 0, 7, 873, 5, 1, 2, 1, 9, 432])

    def test_a_checksum_is_never_below_0(self):
        calls = LINK + [send_item(0, [1, 0, 0, 0, 0, 0, -9999]), list_frames(0)]
        self.assertEqual(last(calls)[-1], 2 - 8 * 9999 + 97 * 8 + 1000003)

    def test_the_first_field_wraps(self):
        calls = [new_link(1, 3, 1, 1, 0)]
        found = []
        for number in range(8):
            calls += [send_item(0, numbered(number)), list_frames(0), deliver_frame(0, 0, 0)] + acknowledge(0)
        for answer in ask(calls)[2::5]:
            found += first_fields(answer)
        self.assertEqual(found, [0, 1, 2, 0, 1, 2, 0, 1])


class Disappearing(unittest.TestCase):
    def test_a_frame_stays_until_k_later_ones_were_sent(self):
        for k in (1, 2, 3, 20):
            calls = [new_link(2, 60, k, 1, 0), send_item(0, EVENT), send_item(0, ANTI_MESSAGE)]
            calls += [retransmit(0, 1)] * (k - 2)
            if k > 1:
                self.assertEqual(first_fields(last(calls + [list_frames(0)])), [0] + [1] * (k - 1))
                calls.append(retransmit(0, 1))
            self.assertEqual(first_fields(last(calls + [list_frames(0)])), [1] * k)

    def test_lost_frames_count(self):
        calls = [new_link(2, 60, 3, 1, 0)] + send_items(0, 0, 1)
        calls += [retransmit(0, 0), lose_frame(0, 1)] * 2
        self.assertEqual(first_fields(last(calls + [list_frames(0)])), [0])
        self.assertEqual(last(calls + send_items(0, 1, 1) + [list_frames(0)])[:3], [1, 5, 1])

    def test_delivered_frames_count(self):
        calls = [new_link(2, 60, 3, 1, 0)] + send_items(0, 0, 1)
        calls += [retransmit(0, 0), deliver_frame(0, 1, 0)] * 2 + send_items(0, 1, 1) + [list_frames(0)]
        self.assertEqual(first_fields(last(calls)), [1])

    def test_a_lost_frame_does_not_shorten_the_life_of_others(self):
        calls = [new_link(3, 60, 3, 1, 0)] + THREE + [lose_frame(0, 1), retransmit(0, 1), list_frames(0)]
        self.assertEqual(first_fields(last(calls)), [2, 1])

    def test_a_copy_that_stays_is_as_old_as_before(self):
        calls = [new_link(3, 60, 2, 1, 0)] + send_items(0, 0, 2) + [deliver_frame(0, 0, 1), list_frames(0)]
        calls += send_items(0, 2, 1) + [list_frames(0)]
        found = ask(calls)
        self.assertEqual(first_fields(found[4]), [0, 1])
        self.assertEqual(first_fields(found[6]), [1, 2])

    def test_a_changed_frame_is_as_old_as_before(self):
        calls = [new_link(3, 60, 2, 1, 0)] + send_items(0, 0, 2) + [corrupt_frame(0, 0, 0, 7)]
        calls += send_items(0, 2, 1) + [list_frames(0)]
        self.assertEqual(first_fields(last(calls)), [1, 2])

    def test_frames_for_items_of_the_queue_count(self):
        calls = [new_link(2, 60, 2, 1, 1)] + send_items(0, 0, 3) + [deliver_frame(0, 0, 1), list_frames(0)]
        calls += acknowledge(0) + [list_frames(0)]
        found = ask(calls)
        self.assertEqual(first_fields(found[5]), [0, 1])
        self.assertEqual(first_fields(found[8]), [1, 2])

    def test_another_link_is_not_counted(self):
        calls = [new_link(1, 60, 1, 1, 0), new_link(1, 60, 1, 1, 0)] + send_items(0, 0, 1)
        calls += send_items(1, 0, 1) + [retransmit(1, 0), list_frames(0), list_frames(1)]
        self.assertEqual(ask(calls)[-2:], [[1, 5, 0, 1, 0, 5, 410]] * 2)

    def test_a_frame_that_disappeared_does_not_exist(self):
        before = [new_link(2, 60, 2, 1, 0)] + send_items(0, 0, 2) + [retransmit(0, 0)]
        assert_refused(self, before, deliver_frame(0, 2, 0), -5)
        self.assertEqual(last(before + [deliver_frame(0, 1, 0)]), [2, 1])


class DeliverFrame(unittest.TestCase):
    def test_in_order_each_is_delivered(self):
        for link in (LINK, ORDERED):
            calls = link + THREE + [deliver_frame(0, 0, 0)] * 3 + [list_frames(0), send_ack(0)]
            self.assertEqual(ask(calls)[4:], [[2, 1]] * 3 + [[0], [3, 3, 0, 0]])

    def test_out_of_order_not_ordered_each_is_delivered_at_once(self):
        calls = LINK + THREE + [deliver_frame(0, 2, 0), deliver_frame(0, 1, 0), deliver_frame(0, 0, 0), send_ack(0)]
        self.assertEqual(ask(calls)[4:], [[2, 1]] * 3 + [[3, 3, 0, 0]])

    def test_out_of_order_ordered_up_to_the_first_missing(self):
        calls = ORDERED + THREE + [deliver_frame(0, 2, 0), deliver_frame(0, 1, 0), deliver_frame(0, 0, 0)]
        self.assertEqual(ask(calls)[4:], [[2, 0], [2, 0], [2, 3]])
        calls = ORDERED + THREE + [deliver_frame(0, 2, 0), deliver_frame(0, 0, 0), deliver_frame(0, 0, 0)]
        self.assertEqual(ask(calls)[4:], [[2, 0], [2, 1], [2, 2]])

    def test_one_that_stays_is_a_duplicate_next_time(self):
        for link in (LINK, ORDERED):
            calls = link + THREE + [deliver_frame(0, 0, 1), list_frames(0), deliver_frame(0, 0, 0), list_frames(0)]
            found = ask(calls)[4:]
            self.assertEqual([found[0], found[2]], [[2, 1], [1, 0]])
            self.assertEqual(first_fields(found[1]), [0, 1, 2])
            self.assertEqual(first_fields(found[3]), [1, 2])

    def test_a_duplicate_above_the_smallest_missing_number(self):
        for link in (LINK, ORDERED):
            calls = link + THREE + [deliver_frame(0, 1, 1), deliver_frame(0, 1, 1), send_ack(0)]
            self.assertEqual(ask(calls)[5:], [[1, 0], [3, 0, 1, 0]])

    def test_the_copy_stays_in_its_place(self):
        calls = LINK + THREE + [deliver_frame(0, 1, 1), list_frames(0), deliver_frame(0, 1, 0), list_frames(0)]
        found = ask(calls)[4:]
        self.assertEqual(first_fields(found[1]), [0, 1, 2])
        self.assertEqual(first_fields(found[3]), [0, 2])

    def test_a_corrupted_frame_goes_or_stays_as_well(self):
        calls = LINK + THREE + [corrupt_frame(0, 1, 1, 9), deliver_frame(0, 1, 1), list_frames(0)]
        calls += [deliver_frame(0, 1, 0), list_frames(0), send_ack(0)]
        found = ask(calls)[5:]
        self.assertEqual([found[0], found[2], found[4]], [[0, 0], [0, 0], [3, 0, 0, 0]])
        self.assertEqual([first_fields(found[1]), first_fields(found[3])], [[0, 1, 2], [0, 2]])

    def test_numbers_expected_are_x_to_x_plus_w_minus_1(self):
        # The first field of number 0's frame becomes each in turn, with the checksum that fits it.
        for field, status in ((0, 2), (1, 2), (2, 2), (3, 1), (5, 1), (6, 1), (-1, 1), (-6, 1), (7, 1), (90000, 1)):
            calls = [new_link(3, 6, 1, 1, 0)] + send_items(0, 0, 1)
            calls += [corrupt_frame(0, 0, 0, field), corrupt_frame(0, 0, 4, 410 + field), deliver_frame(0, 0, 0)]
            self.assertEqual(ask(calls)[2:], [[0], [0], [status, status - 1]], field)

    def test_numbers_expected_wrap(self):
        # x is 5 and M is 6: the numbers expected are 5, 6 and 7, with the fields 5, 0 and 1.
        for field, status in ((5, 2), (0, 2), (1, 2), (2, 1), (4, 1), (6, 1), (7, 1)):
            calls = [new_link(3, 6, 1, 1, 0)]
            for number in range(5):
                calls += transfer(0, number) + acknowledge(0)
            calls += send_items(0, 5, 1)
            calls += [corrupt_frame(0, 0, 0, field), corrupt_frame(0, 0, 4, 410 + field + 10), deliver_frame(0, 0, 0)]
            self.assertEqual(last(calls), [status, status - 1], field)

    def test_a_field_for_a_later_number_is_recorded_under_it(self):
        calls = LINK + THREE + [corrupt_frame(0, 0, 0, 2), corrupt_frame(0, 0, 4, 412), deliver_frame(0, 0, 0)]
        calls += [send_ack(0), deliver_frame(0, 1, 0)]
        self.assertEqual(ask(calls)[6:], [[2, 1], [3, 0, 0, 1], [1, 0]])

    def test_without_a_frame(self):
        for packet in (-1, 0, 1):
            assert_refused(self, LINK, deliver_frame(0, packet, 0), -5)

    def test_the_next_packet_on_both_sides(self):
        for packet in (-1, -3, 3, 4, -BIG, BIG):
            for stays in (0, 1):
                assert_refused(self, LINK + THREE, deliver_frame(0, packet, stays), -5)

    def test_stays_out_of_range_comes_first(self):
        for stays in (-1, 2, -BIG, BIG):
            for packet in (-1, 0, 2, 3):
                assert_refused(self, LINK + THREE, deliver_frame(0, packet, stays), -1)


class LoseFrame(unittest.TestCase):
    def test_one_frame_goes_and_the_others_move_up(self):
        for packet, behind in ((0, [1, 2]), (1, [0, 2]), (2, [0, 1])):
            found = ask(LINK + THREE + [lose_frame(0, packet), list_frames(0)])
            self.assertEqual(found[4], [0])
            self.assertEqual(first_fields(found[5]), behind)

    def test_it_is_not_received(self):
        self.assertEqual(last(LINK + THREE + [lose_frame(0, 0), send_ack(0)]), [3, 0, 0, 0])

    def test_no_such_frame(self):
        for packet in (-1, -3, 3, -BIG, BIG):
            assert_refused(self, LINK + THREE, lose_frame(0, packet), -5)
        assert_refused(self, LINK, lose_frame(0, 0), -5)


class CorruptFrame(unittest.TestCase):
    ONE = LINK + [send_item(0, ANTI_MESSAGE)]

    def test_each_field_and_the_checksum(self):
        for place in range(5):
            fields = [0] + ANTI_MESSAGE + [431]
            fields[place] = 77
            calls = self.ONE + [corrupt_frame(0, 0, place, 77), list_frames(0), deliver_frame(0, 0, 0), send_ack(0)]
            self.assertEqual(ask(calls)[2:], [[0], [1, 5] + fields, [0, 0], [3, 0, 0, 0]])

    def test_the_checksum_of_the_longest_frame(self):
        calls = LINK + [send_item(0, EVENT), corrupt_frame(0, 0, 8, 99), list_frames(0), corrupt_frame(0, 0, 7, 98)]
        calls += [list_frames(0)]
        found = ask(calls)
        self.assertEqual(found[3], [1, 9, 0, 1, 5, 6, 0, 0, 0, 7, 99])
        self.assertEqual(found[5], [1, 9, 0, 1, 5, 6, 0, 0, 0, 98, 99])

    def test_changed_and_changed_back(self):
        for place, right in enumerate([0] + ANTI_MESSAGE + [431]):
            calls = self.ONE + [corrupt_frame(0, 0, place, 5000), corrupt_frame(0, 0, place, right)]
            self.assertEqual(last(calls + [deliver_frame(0, 0, 0)]), [2, 1], place)

    def test_the_same_number_again_is_no_change(self):
        for place, right in enumerate([0] + ANTI_MESSAGE + [431]):
            self.assertEqual(last(self.ONE + [corrupt_frame(0, 0, place, right), deliver_frame(0, 0, 0)]), [2, 1])

    def test_a_field_and_the_checksum_that_fits_it(self):
        calls = self.ONE + [corrupt_frame(0, 0, 3, 10), corrupt_frame(0, 0, 4, 435), deliver_frame(0, 0, 0)]
        self.assertEqual(last(calls), [2, 1])

    def test_two_fields_that_leave_the_checksum_right(self):
        calls = self.ONE + [corrupt_frame(0, 0, 1, 4), corrupt_frame(0, 0, 3, 8), deliver_frame(0, 0, 0)]
        self.assertEqual(last(calls), [2, 1])

    def test_two_fields_exchanged_are_corrupted(self):
        calls = self.ONE + [corrupt_frame(0, 0, 1, 1), corrupt_frame(0, 0, 2, 2), deliver_frame(0, 0, 0)]
        self.assertEqual(last(calls), [0, 0])

    def test_a_checksum_is_taken_modulo_1000003(self):
        calls = LINK + [send_item(0, [1, 0, 0, 0, 0, 0, 0]), corrupt_frame(0, 0, 7, 99999)]
        calls += [corrupt_frame(0, 0, 6, 28469), corrupt_frame(0, 0, 8, 50), list_frames(0), deliver_frame(0, 0, 0)]
        self.assertEqual(ask(calls)[5:], [[1, 9, 0, 1, 0, 0, 0, 0, 28469, 99999, 50], [2, 1]])

    def test_a_checksum_below_0_is_never_right(self):
        # The sum is 3 - 4 + 3 - 400 + 388, which is -10, and the checksum 999993.
        calls = self.ONE + [corrupt_frame(0, 0, 0, 3), corrupt_frame(0, 0, 1, -2), corrupt_frame(0, 0, 3, -100)]
        calls += [corrupt_frame(0, 0, 4, -10), list_frames(0), deliver_frame(0, 0, 0)]
        self.assertEqual(ask(calls)[6:], [[1, 5, 3, -2, 1, -100, -10], [0, 0]])

    def test_the_copies_of_a_retransmitted_number_are_not_changed(self):
        calls = self.ONE + [retransmit(0, 0), corrupt_frame(0, 0, 1, 9), retransmit(0, 0), list_frames(0)]
        self.assertEqual(last(calls), [3, 5, 0, 9, 1, 9, 431, 5, 0, 2, 1, 9, 431, 5, 0, 2, 1, 9, 431])

    def test_what_was_received_is_not_changed_with_the_copy(self):
        link = Link(3, 20, 9, 3, 0)
        send_on(link, [[2, 1, 9]])
        deliver_to(link, [0, 1])
        corrupt_on(link, [0, 1, 9])
        self.assertEqual(link.receiver.delivered, [(0, [2, 1, 9])])

    def test_the_item_of_the_frame_is_what_is_received(self):
        link = Link(3, 20, 9, 3, 0)
        send_on(link, [[2, 1, 9]])
        corrupt_on(link, [0, 1, -9999])
        corrupt_on(link, [0, 3, 99999])
        corrupt_on(link, [0, 0, 1])
        link.frames.packets[0].checksum = (1 - 2 * 9999 + 3 + 4 * 99999 + 97 * 4) % 1000003
        self.assertEqual(deliver_to(link, [0, 0]), [2, 1])
        self.assertEqual(link.receiver.delivered, [(1, [-9999, 1, 99999])])

    def test_both_ends_of_z_and_the_next_numbers(self):
        for place in (0, 2, 4):
            for number in (-9999, 99999):
                found = ask(self.ONE + [corrupt_frame(0, 0, place, number), list_frames(0)])
                self.assertEqual([found[2], found[3][2 + place]], [[0], number])
            for number in (-10000, 100000, -BIG, BIG):
                assert_refused(self, self.ONE, corrupt_frame(0, 0, place, number), -1)

    def test_the_next_numbers_on_both_sides_of_i(self):
        for place in (-1, 5, 6, -BIG, BIG):
            assert_refused(self, self.ONE, corrupt_frame(0, 0, place, 7), -1)
        event = LINK + [send_item(0, EVENT)]
        for place in (-1, 9):
            assert_refused(self, event, corrupt_frame(0, 0, place, 7), -1)
        self.assertEqual(last(event + [corrupt_frame(0, 0, 8, 7)]), [0])

    def test_no_such_frame_comes_first(self):
        for packet in (-1, 1, 2, -BIG, BIG):
            for place, number in ((0, 7), (-1, 7), (5, 7), (0, 100000), (9, -10000)):
                assert_refused(self, self.ONE, corrupt_frame(0, packet, place, number), -5)


class BothChannels(unittest.TestCase):
    def test_frames_and_acknowledgements_are_apart(self):
        calls = LINK + send_items(0, 0, 1) + [deliver_ack(0, 0, 0), send_ack(0), send_ack(0), deliver_frame(0, 1, 0)]
        self.assertEqual(ask(calls)[2:], [[-5], [3, 0, 0, 0], [3, 0, 0, 0], [-5]])


if __name__ == "__main__":
    unittest.main()
