import unittest

from asking import (
    ask, corrupt_frame, deliver_ack, deliver_frame, list_frames, new_link, retransmit, send_ack, send_item,
)


class Examples(unittest.TestCase):
    def assert_rows(self, rows):
        found = ask([call for call, answer in rows])
        for (call, answer), given in zip(rows, found):
            self.assertEqual(" ".join(str(number) for number in given), answer, call)

    def test_the_rows_up_to_the_first_content_dropped(self):
        self.assert_rows([
            (new_link(2, 6, 3, 2, 1), "0 1"),
            (send_item(0, [1, 5, 6, 0, 0, 0, 7]), "0 1"),
            (send_item(0, [2, 1, 9]), "1 1"),
            (send_item(0, [3, 8, 0, 0, 1, 0, -4]), "2 0"),
            (list_frames(0), "2 9 0 1 5 6 0 0 0 7 873 5 1 2 1 9 432"),
            (deliver_frame(0, 1, 1), "2 0"),
            (deliver_frame(0, 1, 0), "1 0"),
            (send_ack(0), "2 0 1"),
            (corrupt_frame(0, 0, 3, 9), "0"),
            (deliver_frame(0, 0, 0), "0 0"),
            (deliver_ack(0, 0, 0), "2 0 0"),
            (retransmit(0, 1), "-6"),
            (retransmit(0, 0), "1"),
            (deliver_frame(0, 0, 0), "2 2"),
            # In the table the content of number 0 is dropped here, and its frame sent empty.
            (send_ack(0), "2 2 0"),
            (deliver_ack(0, 0, 0), "2 2 1"),
            (list_frames(0), "1 9 2 3 8 0 0 1 0 -4 782"),
            (new_link(1, 2, 2, 1, 0), "1 0"),
        ])

    def test_the_steps_told_for_a_link_that_is_not_safe(self):
        self.assert_rows([
            (new_link(1, 2, 2, 1, 0), "0 0"),
            (send_item(0, [1, 0, 5]), "0 1"),
            (deliver_frame(0, 0, 0), "2 1"),
            (retransmit(0, 0), "1"),
            (send_ack(0), "1 1"),
            (deliver_ack(0, 0, 0), "2 1 0"),
            (send_item(0, [2, 0, 5]), "1 1"),
            (deliver_frame(0, 1, 0), "2 1"),
            (send_ack(0), "1 0"),
            (deliver_ack(0, 0, 0), "2 2 0"),
            (deliver_frame(0, 0, 0), "2 1"),
        ])


if __name__ == "__main__":
    unittest.main()
