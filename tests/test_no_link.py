import unittest

from asking import (
    BIG, EVENT, assert_refused, check_parameters, corrupt_ack, corrupt_frame, deliver_ack, deliver_frame, drop_below,
    find_failure, get_counts, last, list_acks, list_delivered, list_frames, list_in_transit, lose_ack, lose_frame,
    minimum_times, new_link, receiver_state, recover, retransmit, send_ack, send_item, sender_state,
)

BEFORE = [new_link(2, 6, 3, 2, 1), new_link(1, 4, 2, 2, 0)]
for LINK in (0, 1):
    BEFORE += [send_item(LINK, EVENT), send_ack(LINK)]


class NoLink(unittest.TestCase):
    def assert_no_link(self, made):
        for link in (-1, -2, 2, 3, -BIG, BIG):
            assert_refused(self, BEFORE, made(link), -2, link_count=2)

    def test_with_good_arguments_behind_it(self):
        self.assert_no_link(lambda link: send_item(link, EVENT))
        self.assert_no_link(lambda link: retransmit(link, 0))
        self.assert_no_link(lambda link: deliver_frame(link, 0, 0))
        self.assert_no_link(lambda link: lose_frame(link, 0))
        self.assert_no_link(lambda link: corrupt_frame(link, 0, 1, 7))
        self.assert_no_link(send_ack)
        self.assert_no_link(lambda link: deliver_ack(link, 0, 0))
        self.assert_no_link(lambda link: lose_ack(link, 0))
        self.assert_no_link(lambda link: corrupt_ack(link, 0, 0, 7))
        self.assert_no_link(list_frames)
        self.assert_no_link(list_acks)
        self.assert_no_link(sender_state)
        self.assert_no_link(receiver_state)
        self.assert_no_link(lambda link: list_delivered(link, 0))
        self.assert_no_link(list_in_transit)
        self.assert_no_link(recover)

    def test_before_the_first_link(self):
        for made in (list_acks, sender_state, receiver_state, list_in_transit, recover):
            self.assertEqual(last([made(0)]), [-2])
        self.assertEqual(last([list_delivered(0, 0)]), [-2])

    def test_calls_without_a_link_need_none(self):
        for call, answer in (
            (minimum_times(), [0, 0]), (drop_below(9), [0]), (check_parameters(2, 6, 3, 2, 1), [1, 0]),
            (find_failure(2, 6, 3, 2, 1), [0]), (get_counts(), [0]),
        ):
            self.assertEqual(last([call]), answer)

    def test_ahead_of_every_other_error(self):
        self.assert_no_link(lambda link: send_item(link, [0]))
        self.assert_no_link(lambda link: send_item(link, []))
        self.assert_no_link(lambda link: retransmit(link, 9))
        self.assert_no_link(lambda link: deliver_frame(link, 9, 0))
        self.assert_no_link(lambda link: deliver_frame(link, 0, 2))
        self.assert_no_link(lambda link: lose_frame(link, 9))
        self.assert_no_link(lambda link: corrupt_frame(link, 9, 1, 7))
        self.assert_no_link(lambda link: corrupt_frame(link, 0, -1, 7))
        self.assert_no_link(lambda link: deliver_ack(link, 9, 0))
        self.assert_no_link(lambda link: deliver_ack(link, 0, -1))
        self.assert_no_link(lambda link: lose_ack(link, 9))
        self.assert_no_link(lambda link: corrupt_ack(link, 9, 0, 7))
        self.assert_no_link(lambda link: corrupt_ack(link, 0, 0, 100000))
        self.assert_no_link(lambda link: list_delivered(link, -1))
        self.assert_no_link(lambda link: list_delivered(link, 9))


if __name__ == "__main__":
    unittest.main()
