"""Point 4: worthy and worth."""

import itertools
import unittest

from tests.line import BIGGEST, WORTHY, ask, drop, last, move, start, told, windows, worth


def worthy(*asked):
    return last(start(1), *asked, WORTHY)


class Worthy(unittest.TestCase):
    def test_nobody(self):
        self.assertEqual(worthy(), [0])
        self.assertEqual(worthy(ask(0, 1, 9), drop(0)), [0])

    def test_all_are_taken_where_all_can_be_served(self):
        self.assertEqual(worthy(ask(0, 2, 5), ask(0, 2, 7)), [12, 0, 1])

    def test_who_counts_most_is_taken(self):
        self.assertEqual(worthy(ask(0, 1, 5), ask(0, 1, 7)), [7, 1])
        self.assertEqual(worthy(ask(0, 1, 7), ask(0, 1, 5)), [7, 0])

    def test_of_like_counts_the_lesser_number(self):
        self.assertEqual(worthy(ask(0, 1, 5), ask(0, 1, 5)), [5, 0])
        self.assertEqual(worthy(ask(0, 2, 5), ask(0, 2, 5), ask(0, 2, 5)), [10, 0, 1])
        self.assertEqual(worthy(ask(0, 2, 5), ask(0, 1, 5), ask(0, 2, 5), ask(0, 1, 5)), [10, 0, 1])

    def test_the_lesser_number_though_it_came_later(self):
        self.assertEqual(worthy(ask(9, 10, 5), ask(0, 1, 5), drop(0), ask(0, 1, 5)), [5, 0])

    def test_of_like_counts_whose_time_ends_first_has_no_right(self):
        self.assertEqual(worthy(ask(0, 2, 5), ask(1, 2, 5), ask(0, 1, 5)), [10, 0, 1])

    def test_who_counts_nothing(self):
        self.assertEqual(worthy(ask(0, 1, 0)), [0, 0])
        self.assertEqual(worthy(ask(0, 1, 0), ask(0, 1, 0)), [0, 0])
        self.assertEqual(worthy(ask(0, 1, 0), ask(0, 1, 1)), [1, 1])
        self.assertEqual(worthy(ask(0, 2, 0), ask(0, 1, 1)), [1, 0, 1])

    def test_those_taken_are_told_rising(self):
        self.assertEqual(worthy(ask(0, 3, 1), ask(0, 3, 2), ask(0, 3, 3)), [6, 0, 1, 2])
        self.assertEqual(worthy(ask(0, 3, 30), ask(0, 3, 10), ask(0, 3, 20), ask(0, 3, 40)), [90, 0, 2, 3])

    def test_one_who_does_not_fit_is_passed_over_and_a_lesser_one_taken(self):
        self.assertEqual(worthy(ask(0, 1, 9), ask(0, 1, 8), ask(1, 2, 1)), [10, 0, 2])

    def test_those_taken_make_room_for_another(self):
        self.assertEqual(worthy(ask(0, 2, 9), ask(0, 1, 8), ask(1, 2, 7)), [17, 0, 1])
        self.assertEqual(worthy(ask(0, 3, 9), ask(0, 1, 8), ask(1, 2, 7)), [24, 0, 1, 2])

    def test_not_the_same_as_those_whom_the_plan_serves(self):
        self.assertEqual(worthy(ask(0, 1, 1), ask(0, 1, 2), ask(0, 1, 3)), [3, 2])

    def test_it_goes_with_the_windows(self):
        line = [start(1)] + [ask(6, 7, v) for v in [10, 40, 20, 50, 30]]
        wanted = {1: [50, 3], 2: [90, 1, 3], 3: [120, 1, 3, 4], 4: [140, 1, 2, 3, 4]}
        for m in wanted:
            self.assertEqual(last(*line, windows(m), WORTHY), wanted[m])

    def test_it_goes_with_move_and_drop(self):
        line = [start(1), ask(0, 1, 5), ask(0, 1, 7), WORTHY, move(0, 1, 2), WORTHY, drop(1), WORTHY]
        self.assertEqual(told(*line)[3::2], [[7, 1], [12, 0, 1], [5, 0]])

    def test_ten_who_count_a_hundred(self):
        self.assertEqual(worthy(*[ask(0, 40, 100)] * 10), [1000, 0, 1, 2, 3, 4, 5, 6, 7, 8, 9])
        self.assertEqual(worthy(*[ask(3, 4, 100)] * 10), [100, 0])


class Worth(unittest.TestCase):
    THREE = [start(1), ask(0, 2, 5), ask(0, 1, 7), ask(0, 2, 100)]

    def worth(self, *persons):
        return last(*self.THREE, worth(*persons))

    def test_no_persons(self):
        self.assertEqual(self.worth(), [0])
        self.assertEqual(last(start(1), worth()), [0])
        self.assertEqual(last(start(1), ask(0, 1), ask(0, 1), worth()), [0])

    def test_what_they_count_together(self):
        self.assertEqual(self.worth(0), [5])
        self.assertEqual(self.worth(2), [100])
        self.assertEqual(self.worth(0, 1), [12])
        self.assertEqual(self.worth(0, 2), [105])

    def test_who_counts_nothing(self):
        self.assertEqual(last(start(1), ask(0, 1, 0), worth(0)), [0])
        self.assertEqual(last(start(1), ask(0, 1, 0), ask(0, 1, 0), worth(0, 1)), [-33])
        self.assertEqual(last(start(1), ask(0, 1, 0), worth(0, 0)), [-22])

    def test_one_who_has_not_asked(self):
        for persons in [(3,), (0, 3), (3, 0), (10,), (BIGGEST,), (0, 1, BIGGEST), (3, 4)]:
            self.assertEqual(self.worth(*persons), [-22], persons)
        self.assertEqual(last(start(1), worth(0)), [-22])

    def test_one_who_asks_no_more(self):
        self.assertEqual(last(*self.THREE, drop(1), worth(1)), [-22])
        self.assertEqual(last(*self.THREE, drop(1), worth(0, 2)), [105])
        self.assertEqual(last(*self.THREE, start(1), worth(0)), [-22])

    def test_one_told_twice(self):
        for persons in [(0, 0), (0, 1, 0), (1, 0, 0), (2, 2, 2), (3, 3)]:
            self.assertEqual(self.worth(*persons), [-22], persons)

    def test_these_cannot_all_be_served(self):
        self.assertEqual(self.worth(0, 1, 2), [-33])
        self.assertEqual(last(start(1), ask(0, 1), ask(0, 1), worth(0, 1)), [-33])

    def test_others_who_are_not_told_take_no_place(self):
        self.assertEqual(last(start(1), *[ask(0, 1, 3)] * 9, ask(0, 1, 8), worth(9)), [8])

    def test_one_who_has_not_asked_or_is_told_twice_goes_before(self):
        for persons in [(0, 1, 2, 3), (0, 1, 2, 0), (3, 0, 1, 2), (0, 0, 1, 2)]:
            self.assertEqual(self.worth(*persons), [-22], persons)

    def test_in_whatever_order(self):
        for persons in itertools.permutations([0, 1, 2]):
            self.assertEqual(self.worth(*persons), [-33])
            self.assertEqual(last(*self.THREE, windows(2), worth(*persons)), [112])
        self.assertEqual(self.worth(1, 0), [12])

    def test_all_ten_in_falling_order(self):
        line = [start(1)] + [ask(0, 40, number * 10) for number in range(10)]
        self.assertEqual(last(*line, worth(*range(9, -1, -1))), [450])
        self.assertEqual(last(start(1), *[ask(0, 40, 100)] * 10, worth(*range(10))), [1000])

    def test_lists_of_sixty(self):
        ten = [start(1)] + [ask(0, 40, 1)] * 10
        for persons in [list(range(60)), [0] * 60, list(range(10)) * 6, [BIGGEST] * 60]:
            self.assertEqual(told(*ten, worth(*persons), worth(*range(10)))[11:], [[-22], [10]])

    def test_numbers_that_look_like_calls_are_read_as_persons(self):
        line = [start(1), ask(0, 40, 1), worth(0, 4), worth(2, 0), worth(1, 0, 40, 1), worth(14, 0), worth(0), worth()]
        self.assertEqual(told(*line), [[0], [0], [-22], [-22], [-22], [-22], [1], [0]])

    def test_it_goes_with_windows_and_move(self):
        line = [start(1), ask(0, 1, 5), ask(0, 1, 7)]
        self.assertEqual(told(*line, worth(0, 1), windows(2), worth(0, 1))[3::2], [[-33], [12]])
        self.assertEqual(told(*line, worth(0, 1), move(0, 1, 2), worth(0, 1))[3::2], [[-33], [12]])

    def test_those_taken_count_what_worthy_says(self):
        line = [start(1), ask(0, 2, 9), ask(0, 1, 8), ask(1, 2, 7)]
        self.assertEqual(told(*line, WORTHY, worth(0, 1), worth(0, 2), worth(1, 2), worth(2, 1, 0))[4:],
                         [[17, 0, 1], [17], [16], [15], [-33]])


if __name__ == "__main__":
    unittest.main()
