import unittest

from asking import (
    BIG, EVENT, assert_refused, corrupt_ack, corrupt_frame, deliver_ack, deliver_frame, list_frames, lose_ack,
    lose_frame, new_link, retransmit, send_ack, send_item,
)

BEFORE = [new_link(2, 6, 3, 2, 1), new_link(1, 4, 2, 2, 0)]
for LINK in (0, 1):
    BEFORE += [send_item(LINK, EVENT), send_ack(LINK)]


class NoLink(unittest.TestCase):
    def assert_no_link(self, made):
        for link in (-1, -2, 2, 3, -BIG, BIG):
            assert_refused(self, BEFORE, made(link), -2, link_count=2)

    def test_with_good_arguments_behind_it(self):
        self.assert_no_link(lambda link: send_item(link, EVENT))
        self.assert_no_link(lambda link: retransmit(link, 0))
        self.assert_no_link(lambda link: deliver_frame(link, 0, 0))
        self.assert_no_link(lambda link: lose_frame(link, 0))
        self.assert_no_link(lambda link: corrupt_frame(link, 0, 1, 7))
        self.assert_no_link(send_ack)
        self.assert_no_link(lambda link: deliver_ack(link, 0, 0))
        self.assert_no_link(lambda link: lose_ack(link, 0))
        self.assert_no_link(lambda link: corrupt_ack(link, 0, 0, 7))
        self.assert_no_link(list_frames)

    def test_ahead_of_every_other_error(self):
        self.assert_no_link(lambda link: send_item(link, [0]))
        self.assert_no_link(lambda link: send_item(link, []))
        self.assert_no_link(lambda link: retransmit(link, 9))
        self.assert_no_link(lambda link: deliver_frame(link, 9, 0))
        self.assert_no_link(lambda link: deliver_frame(link, 0, 2))
        self.assert_no_link(lambda link: lose_frame(link, 9))
        self.assert_no_link(lambda link: corrupt_frame(link, 9, 1, 7))
        self.assert_no_link(lambda link: corrupt_frame(link, 0, -1, 7))
        self.assert_no_link(lambda link: deliver_ack(link, 9, 0))
        self.assert_no_link(lambda link: deliver_ack(link, 0, -1))
        self.assert_no_link(lambda link: lose_ack(link, 9))
        self.assert_no_link(lambda link: corrupt_ack(link, 9, 0, 7))
        self.assert_no_link(lambda link: corrupt_ack(link, 0, 0, 100000))


if __name__ == "__main__":
    unittest.main()
