import unittest

from asking import BIG, ask, assert_refused, last, new_link, send_ack, send_item

FOUR = [new_link(2, 6, 3, 2, 1), new_link(1, 2, 1, 1, 0), new_link(3, 10, 1, 3, 0), new_link(8, 200, 20, 12, 1)]


class NewLink(unittest.TestCase):
    def test_links_are_numbered_from_0_in_their_order(self):
        self.assertEqual(ask(FOUR), [[0, 1], [1, 1], [2, 1], [3, 1]])

    def test_each_link_stands_by_itself(self):
        calls = FOUR + [send_item(1, [5, 0, 0]), send_item(2, [6, 0, 0]), send_item(1, [7, 0, 0])]
        calls += [send_ack(0), send_ack(3)]
        self.assertEqual(ask(calls)[4:], [[0, 1], [0, 1], [1, 0], [2, 0, 0], [8] + [0] * 8])

    def test_safe_asks_for_both_conditions(self):
        for w, m, k, r, safe in (
            (2, 6, 3, 2, 1), (2, 5, 3, 2, 0), (2, 7, 3, 2, 1),
            (3, 10, 1, 3, 1), (3, 9, 1, 3, 0), (3, 7, 1, 3, 0),
            (1, 2, 1, 1, 1), (1, 2, 2, 1, 0), (1, 2, 1, 2, 0), (1, 3, 2, 2, 1),
            (8, 35, 20, 4, 1), (8, 34, 20, 4, 0), (8, 97, 20, 12, 1), (8, 96, 20, 12, 0),
            (2, 3, 9, 1, 0), (8, 9, 20, 12, 0), (1, 20, 20, 12, 0), (1, 21, 20, 12, 1),
        ):
            for o in (0, 1):
                self.assertEqual(last([new_link(w, m, k, r, o)]), [0, safe], (w, m, k, r, o))

    def test_both_ends_of_each_range(self):
        for call in (
            new_link(1, 2, 1, 1, 0), new_link(1, 200, 20, 12, 1), new_link(8, 9, 1, 1, 0), new_link(8, 200, 20, 12, 1),
            new_link(2, 3, 1, 12, 0), new_link(5, 6, 20, 1, 1), new_link(7, 8, 1, 1, 1),
        ):
            self.assertEqual(last([call])[0], 0, call)

    def test_the_next_number_on_both_sides_of_each_range(self):
        for call in (
            new_link(0, 6, 3, 2, 1), new_link(9, 60, 3, 2, 1), new_link(-1, 6, 3, 2, 1),
            new_link(2, 2, 3, 2, 1), new_link(2, 201, 3, 2, 1), new_link(8, 8, 1, 1, 1), new_link(1, 1, 1, 1, 0),
            new_link(2, 6, 0, 2, 1), new_link(2, 60, 21, 2, 1), new_link(2, 6, 3, 0, 1), new_link(2, 60, 3, 13, 1),
            new_link(2, 6, 3, 2, -1), new_link(2, 6, 3, 2, 2),
        ):
            assert_refused(self, FOUR[:1], call, -1)

    def test_numbers_far_out_of_range(self):
        for place in range(5):
            for far in (-BIG, BIG):
                call = new_link(2, 6, 3, 2, 1)
                call[place + 1] = far
                assert_refused(self, FOUR[:1], call, -1)

    def test_a_fifth_link_is_refused(self):
        assert_refused(self, FOUR, new_link(2, 6, 3, 2, 1), -8, link_count=4)
        self.assertEqual(last(FOUR + [new_link(2, 6, 3, 2, 1)] * 2), [-8])

    def test_out_of_range_comes_ahead_of_four_links(self):
        assert_refused(self, FOUR, new_link(2, 2, 3, 2, 1), -1, link_count=4)

    def test_a_refused_link_has_no_number(self):
        calls = [new_link(0, 6, 3, 2, 1), send_ack(0), new_link(2, 6, 3, 2, 1), send_ack(1), send_ack(0)]
        self.assertEqual(ask(calls), [[-1], [-2], [0, 1], [-2], [2, 0, 0]])


if __name__ == "__main__":
    unittest.main()
