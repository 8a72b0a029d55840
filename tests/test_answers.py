import unittest

from asking import (
    EVENT, acknowledge, ask, corrupt_frame, deliver_ack, deliver_frame, flat, list_frames, lose_frame, new_link,
    retransmit, send_ack, send_item, transfer,
)
from wrapwindow.links import answers

CALLS = flat(
    [new_link(2, 6, 3, 2, 1)] + transfer(0, 0) + [send_item(0, EVENT), corrupt_frame(0, 0, 1, 9), list_frames(0)]
    + acknowledge(0) + [retransmit(0, 1), lose_frame(0, 1), deliver_frame(0, 0, 1), send_ack(1), send_item(0, [])]
    + [new_link(9, 9, 9, 9, 9), send_ack(0), deliver_ack(0, 0, 1)]
)


class Answers(unittest.TestCase):
    def test_how_many_numbers_stand_ahead_of_each_answer(self):
        calls = [0, 2, 6, 3, 2, 1, 1, 0, 3, 2, 1, 9, 10, 0, 6, 1, 6, 0, 4, 0, 0, 10, 0]
        self.assertEqual(answers(calls), [2, 0, 1, 2, 0, 1, 7, 1, 5, 0, 2, 1, 9, 431, 1, -2, 3, 2, 0, 0, 1, 0, 1, 0])

    def test_one_call_alone(self):
        self.assertEqual(answers([6, 0]), [1, -2])
        self.assertEqual(answers([0, 1, 2, 1, 1, 0]), [2, 0, 1])

    def test_a_list_with_nothing_in_it(self):
        self.assertEqual(answers([0, 1, 2, 1, 1, 0, 1, 0, 0, 6, 0]), [2, 0, 1, 1, -3, 2, 1, 0])

    def test_what_is_handed_in_stays_as_it_was(self):
        calls = list(CALLS)
        answers(calls)
        self.assertEqual(calls, CALLS)

    def test_what_is_given_back_is_a_new_list_of_whole_numbers(self):
        calls = list(CALLS)
        found = answers(calls)
        self.assertIs(type(found), list)
        self.assertEqual({type(number) for number in found}, {int})
        found.clear()
        self.assertEqual(calls, CALLS)
        self.assertNotEqual(answers(calls), [])

    def test_two_lists_know_nothing_of_each_other(self):
        first = answers(CALLS)
        self.assertEqual(answers([6, 0]), [1, -2])
        self.assertEqual(answers([0, 1, 2, 1, 1, 0]), [2, 0, 1])
        self.assertEqual(answers(CALLS), first)

    def test_four_links_each_time(self):
        four = [new_link(1, 2, 1, 1, 0)] * 4
        for time in range(3):
            self.assertEqual(ask(four), [[0, 1], [1, 1], [2, 1], [3, 1]])

    def test_150_calls(self):
        calls = [new_link(8, 200, 20, 12, 1)] + [send_item(0, [1, 0, 0, 0, 0, 0, 0])] * 119 + [list_frames(0)] * 30
        found = ask(calls)
        self.assertEqual(len(found), 150)
        self.assertEqual(found[-1][0], 8)


if __name__ == "__main__":
    unittest.main()
