"""Point 3: tight and load."""

import unittest

from tests.line import BIGGEST, FEWEST, TIGHT, ask, drop, last, load, move, start, told, windows


def tight(*asked):
    return last(start(1), *asked, TIGHT)


class Tight(unittest.TestCase):
    def test_nobody(self):
        self.assertEqual(tight(), [-6])
        self.assertEqual(tight(ask(0, 4), drop(0)), [-6])
        self.assertEqual(last(start(1), ask(0, 4), start(2), TIGHT), [-6])

    def test_one_person(self):
        self.assertEqual(tight(ask(3, 9)), [1, 3, 9, 1])
        self.assertEqual(tight(ask(0, 40)), [1, 0, 40, 1])

    def test_a_time_of_one_slot(self):
        self.assertEqual(tight(ask(0, 1)), [1, 0, 1, 1])
        self.assertEqual(tight(ask(39, 40)), [1, 39, 40, 1])
        self.assertEqual(tight(ask(0, 40), ask(0, 40), ask(20, 21), ask(20, 21)), [2, 20, 21, 2])

    def test_all_in_one_slot(self):
        for many in range(1, 11):
            self.assertEqual(tight(*[ask(12, 13)] * many), [many, 12, 13, many])

    def test_rounded_up(self):
        self.assertEqual(tight(*[ask(5, 8)] * 3), [1, 5, 8, 3])
        self.assertEqual(tight(*[ask(5, 8)] * 4), [2, 5, 8, 4])
        self.assertEqual(tight(*[ask(5, 8)] * 6), [2, 5, 8, 6])
        self.assertEqual(tight(*[ask(5, 8)] * 7), [3, 5, 8, 7])

    def test_the_one_that_needs_most_though_it_holds_fewer(self):
        self.assertEqual(tight(*[ask(0, 10)] * 5, ask(4, 5), ask(4, 5)), [2, 4, 5, 2])

    def test_a_span_from_one_person_to_another(self):
        self.assertEqual(tight(ask(0, 1), ask(2, 4), ask(3, 5), ask(2, 5), ask(3, 4)), [2, 2, 5, 4])

    def test_the_end_of_a_lesser_number_may_close_it(self):
        self.assertEqual(tight(ask(3, 5), ask(2, 4), ask(3, 4), ask(2, 5)), [2, 2, 5, 4])

    def test_of_like_ones_the_person_from_whose_first_slot_it_begins(self):
        self.assertEqual(tight(ask(9, 10), ask(2, 3)), [1, 9, 10, 1])
        self.assertEqual(tight(ask(2, 3), ask(9, 10)), [1, 2, 3, 1])
        self.assertEqual(tight(ask(20, 30), ask(9, 10), ask(9, 10), ask(2, 3), ask(2, 3)), [2, 9, 10, 2])

    def test_the_first_by_person_not_by_slot_nor_by_length(self):
        self.assertEqual(tight(ask(10, 20), ask(0, 1), ask(30, 31)), [1, 10, 20, 1])

    def test_of_like_beginnings_the_person_at_whose_end_it_ends(self):
        self.assertEqual(tight(ask(2, 9), ask(2, 3)), [1, 2, 9, 2])
        self.assertEqual(tight(ask(2, 3), ask(2, 9)), [1, 2, 3, 1])
        self.assertEqual(tight(ask(4, 30), ask(4, 6), ask(4, 6), ask(4, 5), ask(4, 5)), [2, 4, 6, 4])
        self.assertEqual(tight(ask(4, 30), ask(4, 5), ask(4, 5), ask(4, 6), ask(4, 6)), [2, 4, 5, 2])

    def test_the_person_with_whom_it_begins_goes_before_the_one_with_whom_it_ends(self):
        self.assertEqual(tight(ask(8, 30), ask(2, 3), ask(2, 3), ask(8, 9), ask(8, 9)), [2, 8, 9, 2])
        self.assertEqual(tight(ask(7, 30), ask(2, 3), ask(2, 3), ask(8, 9), ask(8, 9)), [2, 2, 3, 2])

    def test_it_begins_with_the_first_person_and_ends_with_the_first_that_fits(self):
        self.assertEqual(tight(ask(8, 20), ask(0, 8), ask(0, 12)), [1, 8, 20, 1])
        self.assertEqual(tight(ask(8, 9), ask(0, 4), ask(8, 9), ask(0, 20)), [2, 8, 9, 2])

    def test_a_like_span_of_another_person_that_ends_elsewhere(self):
        two_in_each = [ask(4, 6), ask(4, 5), ask(4, 5), ask(7, 8), ask(7, 8)]
        self.assertEqual(tight(*two_in_each), [2, 4, 6, 3])
        self.assertEqual(tight(*two_in_each, move(0, 7, 9)), [2, 7, 9, 3])
        self.assertEqual(tight(*two_in_each, drop(0)), [2, 4, 5, 2])

    def test_a_span_that_begins_with_one_it_does_not_hold(self):
        self.assertEqual(tight(ask(4, 30), ask(4, 6), ask(5, 6), ask(5, 6)), [2, 4, 6, 3])

    def test_two_spans_alike(self):
        self.assertEqual(tight(ask(7, 9), ask(7, 9), ask(7, 9)), [2, 7, 9, 3])

    def test_the_lesser_number_goes_first_though_it_came_later(self):
        self.assertEqual(tight(ask(1, 2), ask(5, 6), drop(0), ask(9, 10)), [1, 9, 10, 1])
        self.assertEqual(tight(ask(1, 2), ask(5, 9), ask(5, 6), drop(0), ask(5, 20)), [1, 5, 20, 3])

    def test_it_goes_with_move_and_drop(self):
        line = [start(1), ask(3, 4), ask(3, 4), TIGHT, move(0, 0, 8), TIGHT, drop(0), TIGHT]
        self.assertEqual(told(*line)[3::2], [[2, 3, 4, 2], [1, 0, 8, 2], [1, 3, 4, 1]])

    def test_windows_and_counts_have_no_weight(self):
        for m in [1, 2, 3, 4]:
            self.assertEqual(last(start(m), ask(3, 4, 0), ask(3, 4, 0), ask(8, 9, 100), windows(m), TIGHT),
                             [2, 3, 4, 2])

    def test_it_needs_as_many_as_fewest_says(self):
        line = [start(1), ask(3, 4), ask(3, 5), ask(4, 5), ask(0, 40), ask(4, 5)]
        self.assertEqual(told(*line, FEWEST, TIGHT)[6:], [[2], [2, 3, 5, 4]])


class Load(unittest.TestCase):
    FIVE = [start(1), ask(3, 6), ask(3, 4), ask(5, 6), ask(0, 40), ask(39, 40)]

    def load(self, a, b):
        return last(*self.FIVE, load(a, b))

    def test_those_who_can_come_only_between(self):
        self.assertEqual(self.load(3, 6), [3])
        self.assertEqual(self.load(0, 40), [5])
        self.assertEqual(self.load(0, 39), [3])
        self.assertEqual(self.load(1, 40), [4])

    def test_the_edges_belong_to_it(self):
        self.assertEqual(self.load(4, 6), [1])
        self.assertEqual(self.load(3, 5), [1])
        self.assertEqual(self.load(2, 7), [3])
        self.assertEqual(self.load(3, 4), [1])
        self.assertEqual(self.load(39, 40), [1])

    def test_it_need_not_begin_or_end_with_anybody(self):
        self.assertEqual(self.load(1, 35), [3])
        self.assertEqual(self.load(7, 38), [0])

    def test_alike(self):
        for a in [0, 3, 4, 6, 39, 40]:
            self.assertEqual(self.load(a, a), [0], a)

    def test_before(self):
        for a, b in [(1, 0), (4, 3), (6, 3), (40, 39), (41, 40), (BIGGEST, 0), (BIGGEST, 40)]:
            self.assertEqual(self.load(a, b), [-22], (a, b))

    def test_above_forty(self):
        for a, b in [(0, 41), (40, 41), (41, 41), (42, 41), (0, BIGGEST), (BIGGEST, BIGGEST)]:
            self.assertEqual(self.load(a, b), [-22], (a, b))

    def test_nobody(self):
        self.assertEqual(last(start(1), load(0, 40)), [0])
        self.assertEqual(last(start(1), load(0, 41)), [-22])
        self.assertEqual(last(start(1), load(3, 2)), [-22])

    def test_ten(self):
        self.assertEqual(last(start(1), *[ask(17, 18)] * 10, load(17, 18)), [10])

    def test_it_goes_with_move_and_drop(self):
        line = [start(2), ask(3, 6), ask(4, 5), load(3, 6), move(0, 3, 7), load(3, 6), drop(1), load(3, 6)]
        self.assertEqual(told(*line)[3::2], [[2], [1], [0]])

    def test_windows_and_counts_have_no_weight(self):
        for m in [1, 4]:
            self.assertEqual(last(start(m), ask(3, 4, 0), ask(3, 4, 100), load(3, 4)), [2])


if __name__ == "__main__":
    unittest.main()
