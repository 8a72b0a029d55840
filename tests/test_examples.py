import unittest

from asking import (
    ask, check_parameters, corrupt_frame, deliver_ack, deliver_frame, drop_below, find_failure, list_delivered,
    list_frames, list_in_transit, minimum_times, new_link, receiver_state, recover, retransmit, send_ack, send_item,
    sender_state,
)

ROWS = [
    (new_link(2, 6, 3, 2, 1), "0 1"),
    (send_item(0, [1, 5, 6, 0, 0, 0, 7]), "0 1"),
    (send_item(0, [2, 1, 9]), "1 1"),
    (send_item(0, [3, 8, 0, 0, 1, 0, -4]), "2 0"),
    (list_frames(0), "2 9 0 1 5 6 0 0 0 7 873 5 1 2 1 9 432"),
    (minimum_times(), "1 5 1 5"),
    (deliver_frame(0, 1, 1), "2 0"),
    (receiver_state(0), "0 1 1"),
    (deliver_frame(0, 1, 0), "1 0"),
    (send_ack(0), "2 0 1"),
    (corrupt_frame(0, 0, 3, 9), "0"),
    (deliver_frame(0, 0, 0), "0 0"),
    (deliver_ack(0, 0, 0), "2 0 0"),
    (sender_state(0), "0 2 1 0 1 1 1"),
    (retransmit(0, 1), "-6"),
    (retransmit(0, 0), "1"),
    (list_in_transit(0), "3 0 1 2 3 0 1 2"),
    (deliver_frame(0, 0, 0), "2 2"),
    (list_delivered(0, 0), "2 0 7 1 5 6 0 0 0 7 1 3 2 1 9"),
    (list_in_transit(0), "1 2 3 0 1 2"),
    (drop_below(9), "-7"),
    (drop_below(8), "1"),
    (retransmit(0, 0), "0"),
    (send_ack(0), "2 2 0"),
    (deliver_ack(0, 0, 0), "2 2 1"),
    (list_frames(0), "2 2 0 97 9 2 3 8 0 0 1 0 -4 782"),
    (deliver_frame(0, 0, 0), "1 0"),
    (recover(0), "1 1"),
    (minimum_times(), "0 0"),
    (check_parameters(2, 5, 3, 2, 1), "0 1"),
    (check_parameters(3, 7, 1, 3, 0), "0 2"),
    (check_parameters(2, 3, 9, 1, 1), "0 1"),
    (new_link(1, 2, 2, 1, 0), "1 0"),
    (find_failure(1, 2, 2, 1, 0), "10 1 3 1 0 5 3 0 0 2 0 6 7 0 0 1 3 2 0 5 3 1 0 6 7 0 0 3 0 0"),
]


class Examples(unittest.TestCase):
    def assert_rows(self, rows):
        found = ask([call for call, answer in rows])
        for (call, answer), given in zip(rows, found):
            self.assertEqual(" ".join(str(number) for number in given), answer, call)

    def test_all_rows(self):
        self.assert_rows(ROWS)

    def test_the_steps_of_the_last_row_made_as_calls(self):
        self.assert_rows([
            (new_link(1, 2, 2, 1, 0), "0 0"),
            (send_item(0, [1, 0, 5]), "0 1"),
            (deliver_frame(0, 0, 0), "2 1"),
            (retransmit(0, 0), "1"),
            (send_ack(0), "1 1"),
            (deliver_ack(0, 0, 0), "2 1 0"),
            (send_item(0, [2, 0, 5]), "1 1"),
            (deliver_frame(0, 1, 0), "2 1"),
            (send_ack(0), "1 0"),
            (deliver_ack(0, 0, 0), "2 2 0"),
            (deliver_frame(0, 0, 0), "2 1"),
        ])


if __name__ == "__main__":
    unittest.main()
