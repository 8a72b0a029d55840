import unittest

from asking import (
    BIG, acknowledge, ask, assert_refused, deliver_frame, last, list_frames, new_link, retransmit, send_items, transfer,
)

LINK = [new_link(3, 20, 9, 3, 0)]


class Retransmit(unittest.TestCase):
    def test_the_frame_is_sent_once_more_behind_the_others(self):
        calls = LINK + send_items(0, 0, 2) + [retransmit(0, 0), list_frames(0)]
        self.assertEqual(ask(calls)[3:], [[1], [3, 5, 0, 1, 0, 5, 410, 5, 1, 2, 0, 5, 413, 5, 0, 1, 0, 5, 410]])

    def test_as_often_as_asked(self):
        self.assertEqual(ask(LINK + send_items(0, 0, 1) + [retransmit(0, 0)] * 4 + [list_frames(0)])[6][0], 5)

    def test_a_received_number_may_be_sent_again(self):
        self.assertEqual(ask(LINK + transfer(0, 0) + [retransmit(0, 0), deliver_frame(0, 0, 0)])[3:], [[1], [1, 0]])

    def test_the_ends_of_the_window(self):
        before = LINK + transfer(0, 0) + transfer(0, 1) + acknowledge(0) + send_items(0, 2, 5)
        for number in (2, 3, 4):
            self.assertEqual(last(before + [retransmit(0, number)]), [1])
        for number in (-1, 0, 1, 5, 6, 7, -BIG, BIG):
            assert_refused(self, before, retransmit(0, number), -6)

    def test_an_empty_window(self):
        for number in (-1, 0, 1):
            assert_refused(self, LINK, retransmit(0, number), -6)
        assert_refused(self, LINK + transfer(0, 0) + acknowledge(0), retransmit(0, 0), -6)

    def test_an_acknowledged_number_in_the_window(self):
        before = LINK + send_items(0, 0, 3) + [deliver_frame(0, 1, 0)] + acknowledge(0)
        assert_refused(self, before, retransmit(0, 1), -6)
        self.assertEqual(last(before + [retransmit(0, 0)]), [1])
        self.assertEqual(last(before + [retransmit(0, 2)]), [1])

    def test_the_first_field_wraps(self):
        calls = [new_link(1, 3, 1, 1, 0)]
        for number in range(7):
            calls += transfer(0, number) + acknowledge(0)
        calls += send_items(0, 7, 1) + [retransmit(0, 7), list_frames(0)]
        self.assertEqual(ask(calls)[-2:], [[1], [1, 5, 1, 8, 0, 5, 97 * 4 + 1 + 16 + 20]])


if __name__ == "__main__":
    unittest.main()
