import unittest

from asking import (
    EVENT, acknowledge, ask, check_parameters, corrupt_frame, deliver_ack, deliver_frame, drop_below, find_failure,
    flat, get_counts, list_acks, list_delivered, list_frames, list_in_transit, look, lose_frame, minimum_times,
    new_link, receiver_state, recover, retransmit, send_ack, send_item, send_items, sender_state, transfer,
)
from wrapwindow.links import answers

CALLS = flat(
    [new_link(2, 6, 3, 2, 1)] + transfer(0, 0) + [send_item(0, EVENT), corrupt_frame(0, 0, 1, 9), list_frames(0)]
    + acknowledge(0) + [retransmit(0, 1), lose_frame(0, 1), deliver_frame(0, 0, 1), send_ack(1), send_item(0, [])]
    + [new_link(9, 9, 9, 9, 9), send_ack(0), deliver_ack(0, 0, 1), list_acks(0), sender_state(0), receiver_state(0)]
    + [list_delivered(0, 0), list_delivered(0, 5), list_in_transit(0), minimum_times(), drop_below(4), drop_below(6)]
    + [check_parameters(2, 5, 3, 2, 1), find_failure(1, 2, 2, 1, 0), recover(0), get_counts(), new_link(1, 2, 2, 1, 0)]
    + [send_item(1, EVENT), recover(1), deliver_frame(1, 0, 1), drop_below(1000), retransmit(1, 0), get_counts()]
)


class Answers(unittest.TestCase):
    def test_how_many_numbers_stand_ahead_of_each_answer(self):
        calls = [0, 2, 6, 3, 2, 1, 1, 0, 3, 2, 1, 9, 10, 0, 6, 1, 6, 0, 4, 0, 0, 10, 0]
        self.assertEqual(answers(calls), [2, 0, 1, 2, 0, 1, 7, 1, 5, 0, 2, 1, 9, 431, 1, -2, 3, 2, 0, 0, 1, 0, 1, 0])

    def test_how_many_numbers_stand_ahead_of_the_answers_without_a_count_of_their_own(self):
        calls = [21, 16, 18, 1, 2, 1, 1, 0, 0, 1, 2, 1, 1, 0, 1, 0, 3, 2, 1, 9, 12, 0, 13, 0, 14, 0, 0, 15, 0, 11, 0]
        self.assertEqual(answers(calls), [
            1, 0, 2, 0, 0, 2, 1, 0, 2, 0, 1, 2, 0, 1, 5, 0, 1, 0, 0, 1, 2, 0, 0, 1, 0, 4, 1, 0, 1, 0, 1, 0,
        ])
        calls = [0, 1, 2, 1, 1, 0, 1, 0, 3, 2, 1, 9, 16, 17, 9, 17, 10, 20, 0, 14, 0, 0, 14, 0, 2, 21, 20, 1]
        self.assertEqual(answers(calls), [
            2, 0, 1, 2, 0, 1, 4, 1, 9, 1, 9, 1, 0, 1, -7, 2, 1, 1, 6, 1, 0, 3, 2, 1, 9, 1, -1,
            7, 1, 1, 1, 0, 0, 2, 1, 1, -2,
        ])
        self.assertEqual(answers([19, 2, 3, 9, 1, 1, 19, 1, 2, 1, 1, 1, 19, 0, 2, 1, 1, 1]), [
            26, 8, 1, 3, 1, 0, 5, 3, 0, 0, 1, 3, 2, 0, 5, 3, 0, 0, 2, 0, 6, 7, 0, 0, 3, 0, 0, 1, 0, 1, -1,
        ])

    def test_one_call_alone(self):
        self.assertEqual(answers([6, 0]), [1, -2])
        self.assertEqual(answers([0, 1, 2, 1, 1, 0]), [2, 0, 1])

    def test_a_list_with_nothing_in_it(self):
        self.assertEqual(answers([0, 1, 2, 1, 1, 0, 1, 0, 0, 6, 0]), [2, 0, 1, 1, -3, 2, 1, 0])

    def test_what_is_handed_in_stays_as_it_was(self):
        calls = list(CALLS)
        answers(calls)
        self.assertEqual(calls, CALLS)

    def test_what_is_given_back_is_a_new_list_of_whole_numbers(self):
        calls = list(CALLS)
        found = answers(calls)
        self.assertIs(type(found), list)
        self.assertEqual({type(number) for number in found}, {int})
        found.clear()
        self.assertEqual(calls, CALLS)
        self.assertNotEqual(answers(calls), [])

    def test_two_lists_know_nothing_of_each_other(self):
        first = answers(CALLS)
        self.assertEqual(answers([6, 0]), [1, -2])
        self.assertEqual(answers([0, 1, 2, 1, 1, 0]), [2, 0, 1])
        self.assertEqual(answers(CALLS), first)

    def test_a_list_knows_nothing_of_what_was_dropped_and_recovered_before(self):
        first = [new_link(2, 6, 3, 2, 1)] + send_items(0, 0, 3)
        dropped = first + [recover(0), send_item(0, EVENT), deliver_frame(0, 1, 0), drop_below(1000)]
        seen = ask(first + look(1))
        self.assertEqual(ask(dropped + look(1))[:4], seen[:4])
        self.assertEqual(ask(first + look(1)), seen)
        self.assertEqual(ask([minimum_times(), get_counts(), drop_below(1000)]), [[0, 0], [0], [0]])

    def test_four_links_each_time(self):
        four = [new_link(1, 2, 1, 1, 0)] * 4
        for time in range(3):
            self.assertEqual(ask(four), [[0, 1], [1, 1], [2, 1], [3, 1]])

    def test_150_calls(self):
        calls = [new_link(8, 200, 20, 12, 1)] + [send_item(0, [1, 0, 0, 0, 0, 0, 0])] * 119 + [list_frames(0)] * 30
        found = ask(calls)
        self.assertEqual(len(found), 150)
        self.assertEqual(found[-1][0], 8)
        calls = [new_link(1, 2, 1, 1, 1)] * 4 + send_items(3, 0, 120) + [recover(3)] + [list_delivered(3, 0)] * 25
        found = ask(calls)
        self.assertEqual(found[-26], [120, 120])
        self.assertEqual({len(answer) for answer in found[-25:]}, {1 + 120 * 5})


if __name__ == "__main__":
    unittest.main()
