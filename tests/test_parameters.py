import unittest

from asking import (
    BIG, ask, assert_refused, check_parameters, find_failure, get_counts, last, new_link, send_item, send_items,
)

BEFORE = [new_link(2, 6, 3, 2, 1)] + send_items(0, 0, 3)
FOUR = [new_link(2, 6, 3, 2, 1)] * 4

IN_RANGE = (
    (1, 2, 1, 1, 0), (1, 200, 20, 12, 1), (8, 9, 1, 1, 0), (8, 200, 20, 12, 1), (2, 3, 1, 12, 0), (5, 6, 20, 1, 1),
    (7, 8, 1, 1, 1), (1, 2, 20, 12, 0),
)
OUT_OF_RANGE = [
    (0, 6, 3, 2, 1), (9, 60, 3, 2, 1), (-1, 6, 3, 2, 1), (2, 2, 3, 2, 1), (2, 201, 3, 2, 1), (8, 8, 1, 1, 1),
    (1, 1, 1, 1, 0), (2, 6, 0, 2, 1), (2, 60, 21, 2, 1), (2, 6, 3, 0, 1), (2, 60, 3, 13, 1), (2, 6, 3, 2, -1),
    (2, 6, 3, 2, 2),
]
for PLACE in range(5):
    for FAR in (-BIG, BIG):
        OUT_OF_RANGE.append(tuple(FAR if place == PLACE else number for place, number in enumerate((2, 6, 3, 2, 1))))


class CheckParameters(unittest.TestCase):
    def assert_condition(self, parameters, condition):
        self.assertEqual(last([check_parameters(*parameters)]), [0 if condition else 1, condition], parameters)

    def test_m_one_below_and_at_the_bound_of_condition_1(self):
        for w in range(1, 9):
            for k in (1, 2, 3, 11, 19, 20):
                for o in (0, 1):
                    bound = 2 * w + k - 1
                    if bound > w + 1:
                        self.assert_condition((w, bound - 1, k, 1, o), 1)
                    self.assert_condition((w, bound, k, 1, o), 0)

    def test_m_one_below_and_at_the_bound_of_condition_2(self):
        for w in range(1, 9):
            for r in (3, 4, 7, 11, 12):
                for o in (0, 1):
                    self.assert_condition((w, r * w, 1, r, o), 2)
                    self.assert_condition((w, r * w + 1, 1, r, o), 0)

    def test_both_conditions_violated_at_once(self):
        for parameters in ((8, 9, 20, 12, 0), (1, 2, 2, 2, 1), (2, 3, 9, 12, 1), (3, 6, 3, 2, 0)):
            self.assert_condition(parameters, 1)

    def test_where_the_bounds_cross(self):
        # 2 W + K - 1 is 8, and R W is 9.
        for m, condition in ((7, 1), (8, 2), (9, 2), (10, 0)):
            self.assert_condition((3, m, 3, 3, 0), condition)
        # Both bounds are 6.
        for m, condition in ((5, 1), (6, 2), (7, 0)):
            self.assert_condition((3, m, 1, 2, 1), condition)

    def test_safe_as_new_link_tells(self):
        for w in (1, 2, 5, 8):
            for k, r in ((1, 1), (4, 2), (20, 1), (3, 5), (20, 12)):
                for m in (w + 1, w + 3, 2 * w + k - 1, 2 * w + k, r * w + 1, r * w + 2, 200):
                    if m > w:
                        linked, checked = ask([new_link(w, m, k, r, 0), check_parameters(w, m, k, r, 0)])
                        self.assertEqual(linked[1], checked[0], (w, m, k, r))

    def test_both_ends_of_each_range(self):
        for parameters in IN_RANGE:
            self.assertIn(last([check_parameters(*parameters)]), ([1, 0], [0, 1], [0, 2]), parameters)

    def test_the_next_number_on_both_sides_and_far_ones(self):
        for parameters in OUT_OF_RANGE:
            assert_refused(self, BEFORE, check_parameters(*parameters), -1)

    def test_no_link_is_made_or_needed(self):
        self.assertEqual(ask([check_parameters(2, 6, 3, 2, 1), get_counts()]), [[1, 0], [0]])
        self.assertEqual(last(FOUR + [check_parameters(2, 6, 3, 2, 1)]), [1, 0])


class FindFailure(unittest.TestCase):
    def test_safe_parameters(self):
        for parameters in ((2, 6, 3, 2, 1), (1, 2, 1, 1, 0), (8, 200, 20, 12, 1), (3, 10, 3, 3, 0)):
            self.assertEqual(last([find_failure(*parameters)]), [0], parameters)

    def test_condition_1(self):
        for o in (0, 1):
            self.assertEqual(last([find_failure(1, 2, 2, 1, o)]), [10] + [
                1, 3, 1, 0, 5, 3, 0, 0, 2, 0, 6, 7, 0, 0, 1, 3, 2, 0, 5, 3, 1, 0, 6, 7, 0, 0, 3, 0, 0,
            ])
            self.assertEqual(last([find_failure(2, 5, 4, 1, o)]), [16] + [
                1, 3, 1, 0, 5, 3, 0, 0, 1, 3, 2, 0, 5, 3, 0, 0, 2, 0, 6, 7, 0, 0,
                1, 3, 3, 0, 5, 3, 1, 0, 6, 7, 0, 0, 1, 3, 4, 0, 5, 3, 1, 0, 6, 7, 0, 0, 3, 0, 0,
            ])

    def test_condition_1_with_no_further_number(self):
        # M + 1 - 2 W is 0 and below 0.
        self.assertEqual(last([find_failure(2, 3, 9, 1, 1)]), [8] + [
            1, 3, 1, 0, 5, 3, 0, 0, 1, 3, 2, 0, 5, 3, 0, 0, 2, 0, 6, 7, 0, 0, 3, 0, 0,
        ])
        self.assertEqual(last([find_failure(3, 4, 1, 1, 0)]), [10] + [
            1, 3, 1, 0, 5, 3, 0, 0, 1, 3, 2, 0, 5, 3, 0, 0, 1, 3, 3, 0, 5, 3, 0, 0, 2, 0, 6, 7, 0, 0, 3, 0, 0,
        ])

    def test_condition_2(self):
        for o in (0, 1):
            self.assertEqual(last([find_failure(1, 2, 1, 2, o)]), [7] + [
                6, 1, 3, 1, 0, 5, 3, 0, 0, 6, 7, 1, 0, 1, 3, 2, 0, 5, 7, 0, 0,
            ])

    def test_condition_2_with_m_no_multiple_of_w(self):
        # M / W is 5 / 2, its ceiling 3, and c is 2.
        self.assertEqual(last([find_failure(2, 5, 1, 3, 0)]), [16] + [
            6, 1, 3, 1, 0, 5, 3, 0, 0, 1, 3, 2, 0, 5, 3, 0, 0, 6, 7, 1, 0,
            1, 3, 3, 0, 5, 3, 0, 0, 1, 3, 4, 0, 5, 3, 0, 0, 6, 7, 1, 0, 1, 3, 5, 0, 5, 1, 3, 6, 0, 5, 7, 0, 0,
        ])

    def test_condition_2_with_m_a_multiple_of_w(self):
        # M / W is 2, and c is 1.
        self.assertEqual(last([find_failure(2, 4, 1, 2, 1)]), [10] + [
            6, 1, 3, 1, 0, 5, 3, 0, 0, 1, 3, 2, 0, 5, 3, 0, 0, 6, 7, 1, 0, 1, 3, 3, 0, 5, 1, 3, 4, 0, 5, 7, 0, 0,
        ])

    def test_both_conditions_violated_at_once(self):
        for w, m, k in ((1, 2, 2), (2, 5, 4), (8, 9, 20)):
            both, first = ask([find_failure(w, m, k, 12, 0), find_failure(w, m, k, 1, 0)])
            self.assertEqual(both, first)
            self.assertEqual(both[-3:], [3, 0, 0])

    def test_both_ends_of_each_range(self):
        for parameters in IN_RANGE:
            self.assertGreaterEqual(last([find_failure(*parameters)])[0], 0, parameters)

    def test_the_next_number_on_both_sides_and_far_ones(self):
        for parameters in OUT_OF_RANGE:
            assert_refused(self, BEFORE, find_failure(*parameters), -1)

    def test_the_links_there_stay_as_they_are(self):
        before = BEFORE + [find_failure(2, 5, 3, 2, 1), get_counts(), send_item(0, [1, 0, 5])]
        self.assertEqual(ask(before)[-2:], [[1, 3, 0, 2, 0, 2, 0], [3, 0]])
        self.assertEqual(ask([find_failure(1, 2, 2, 1, 0), get_counts()])[1], [0])
        self.assertEqual(last(FOUR + [find_failure(1, 2, 2, 1, 0)])[0], 10)

    def test_ten_in_one_list(self):
        found = ask([find_failure(8, 96, 20, 12, 1)] * 10)
        self.assertEqual(found, found[:1] * 10)
        self.assertEqual(found[0][0], 1 + 11 * 18 + 8 + 1)


if __name__ == "__main__":
    unittest.main()
