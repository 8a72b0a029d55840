import unittest

from asking import (
    ANTI_MESSAGE, BIG, EVENT, acknowledge, ask, assert_refused, deliver_frame, last, list_frames, new_link, numbered,
    send_item, send_items, transfer,
)

EVENT_RANGES = ((1, 99999), (0, 999), (0, 6), (0, 9999), (0, 5), (0, 5), (-9999, 9999))
ANTI_MESSAGE_RANGES = ((1, 99999), (0, 5), (0, 999))
LINK = [new_link(2, 6, 3, 2, 1)]


class Items(unittest.TestCase):
    def both_sorts(self):
        for item, ranges in ((EVENT, EVENT_RANGES), (ANTI_MESSAGE, ANTI_MESSAGE_RANGES)):
            for place, (lowest, highest) in enumerate(ranges):
                yield item, place, lowest, highest

    def changed(self, item, place, number):
        return item[:place] + [number] + item[place + 1:]

    def test_both_ends_of_each_range(self):
        for item, place, lowest, highest in self.both_sorts():
            for number in (lowest, highest):
                good = self.changed(item, place, number)
                sent, frames = ask(LINK + [send_item(0, good), list_frames(0)])[1:]
                self.assertEqual(sent, [0, 1], good)
                self.assertEqual(frames[2:-1], [0] + good)

    def test_the_next_number_on_both_sides_and_far_ones(self):
        for item, place, lowest, highest in self.both_sorts():
            for number in (lowest - 1, highest + 1, -BIG, BIG):
                assert_refused(self, LINK, send_item(0, self.changed(item, place, number)), -3)

    def test_lists_of_another_length(self):
        for length in range(21):
            if length not in (3, 7):
                assert_refused(self, LINK, send_item(0, [1] * length), -3)
        self.assertEqual(last(LINK + [send_item(0, [1] * 3)]), [0, 1])
        self.assertEqual(last(LINK + [send_item(0, [1] * 7)]), [0, 1])

    def test_the_longest_list_is_passed_over_whole(self):
        self.assertEqual(ask(LINK + [send_item(0, [0] * 20), send_item(0, EVENT)])[1:], [[-3], [0, 1]])


class Window(unittest.TestCase):
    def test_items_behind_a_full_window_wait(self):
        found = ask(LINK + [send_item(0, EVENT), send_item(0, ANTI_MESSAGE), send_item(0, EVENT), list_frames(0)])
        self.assertEqual(found[1:4], [[0, 1], [1, 1], [2, 0]])
        self.assertEqual(found[4], [2, 9, 0] + EVENT + [873, 5, 1] + ANTI_MESSAGE + [432])

    def test_each_window_size_holds_as_many_as_it_says(self):
        for w in range(1, 9):
            found = ask([new_link(w, 60, 20, 1, 0)] + send_items(0, 0, w + 2))
            expected = [[number, 1 if number < w else 0] for number in range(w + 2)]
            self.assertEqual(found[1:], expected)

    def test_a_window_with_room_again_takes_at_once(self):
        calls = LINK + transfer(0, 0) + transfer(0, 1) + acknowledge(0) + send_items(0, 2, 3)
        self.assertEqual(ask(calls)[7:], [[2, 1], [3, 1], [4, 0]])

    def test_received_but_not_acknowledged_numbers_still_fill_the_window(self):
        self.assertEqual(last(LINK + transfer(0, 0) + transfer(0, 1) + send_items(0, 2, 1)), [2, 0])

    def test_an_acknowledged_number_behind_the_base_still_fills_the_window(self):
        calls = LINK + send_items(0, 0, 2) + [deliver_frame(0, 1, 0)] + acknowledge(0) + send_items(0, 2, 1)
        self.assertEqual(ask(calls)[4:], [[2, 0, 1], [2, 0, 0], [2, 0]])


class Limit(unittest.TestCase):
    FULL = [new_link(2, 6, 3, 2, 1)] + send_items(0, 0, 120)

    def test_120_items_are_taken(self):
        found = ask(self.FULL)
        self.assertEqual(found[120], [119, 0])
        self.assertEqual([answer[0] for answer in found[1:]], list(range(120)))

    def test_the_121st_is_refused(self):
        assert_refused(self, self.FULL, send_item(0, EVENT), -8)

    def test_no_item_comes_ahead_of_120_items(self):
        assert_refused(self, self.FULL, send_item(0, [0, 0, 0]), -3)

    def test_a_refused_item_does_not_count(self):
        calls = self.FULL[:120] + [send_item(0, [0, 0, 0]), send_item(0, EVENT), send_item(0, EVENT)]
        self.assertEqual(ask(calls)[120:], [[-3], [119, 0], [-8]])

    def test_delivered_and_acknowledged_items_count(self):
        calls = [new_link(8, 20, 1, 1, 1)]
        for number in range(20):
            calls += transfer(0, number)
            if number == 7:
                calls += acknowledge(0)
        calls += send_items(0, 20, 100) + [send_item(0, EVENT)]
        self.assertEqual(last(calls), [-8])

    def test_another_link_has_its_own_120(self):
        self.assertEqual(last(self.FULL + [new_link(2, 6, 3, 2, 1), send_item(1, numbered(0))]), [0, 1])


if __name__ == "__main__":
    unittest.main()
