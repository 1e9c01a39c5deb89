"""Point 1: ask, drop, move and windows."""

import unittest

from tests.line import BIGGEST, CAN, FEWEST, LEFT, PLAN, ask, at, drop, last, move, slot, start, told, windows

TEN = [start(1)] + [ask(number, 40, number) for number in range(10)]


class Ask(unittest.TestCase):
    def test_numbers_rise_from_nought(self):
        self.assertEqual(told(start(1), ask(0, 4), ask(0, 4), ask(2, 3)), [[0], [0], [1], [2]])

    def test_from_must_be_before_to(self):
        for r, d in [(0, 0), (3, 3), (4, 3), (39, 39), (40, 40), (39, 0), (BIGGEST, 40), (BIGGEST, BIGGEST)]:
            self.assertEqual(last(start(1), ask(r, d)), [-22], (r, d))
        for r, d in [(0, 1), (3, 4), (39, 40), (0, 40)]:
            self.assertEqual(last(start(1), ask(r, d)), [0], (r, d))

    def test_to_is_at_most_forty(self):
        self.assertEqual(last(start(1), ask(10, 40)), [0])
        for r, d in [(10, 41), (40, 41), (0, 41), (0, BIGGEST), (BIGGEST - 1, BIGGEST)]:
            self.assertEqual(last(start(1), ask(r, d)), [-22], (r, d))

    def test_counts_at_most_a_hundred(self):
        self.assertEqual(told(start(1), ask(0, 1, 0), ask(0, 1, 100), drop(0), drop(1)),
                         [[0], [0], [1], [0], [100]])
        for v in [101, 102, 2 ** 31, BIGGEST]:
            self.assertEqual(last(start(1), ask(0, 1, v)), [-22], v)

    def test_a_refused_one_is_not_kept(self):
        self.assertEqual(told(start(1), ask(3, 3), ask(0, 41), ask(0, 1, 101), PLAN, FEWEST, ask(5, 6))[4:],
                         [[0], [0], [0]])

    def test_the_eleventh_is_refused(self):
        self.assertEqual(told(*TEN, ask(0, 40), PLAN)[9:],
                         [[8], [9], [-28], [10, 1, 2, 3, 4, 5, 6, 7, 8, 9, 10]])

    def test_wrong_goes_before_too_many(self):
        for call in [ask(5, 5), ask(0, 41), ask(0, 40, 101), ask(BIGGEST, BIGGEST, BIGGEST)]:
            self.assertEqual(last(*TEN, call), [-22], call)

    def test_after_one_of_ten_is_dropped_one_may_ask(self):
        self.assertEqual(told(*TEN, drop(4), ask(0, 40), ask(0, 40))[11:], [[4], [4], [-28]])

    def test_a_number_that_is_free_again_is_given_again(self):
        line = [start(1), ask(0, 9, 1), ask(0, 9, 2), ask(0, 9, 3), drop(1), ask(20, 21, 50), slot(1), drop(1)]
        self.assertEqual(told(*line), [[0], [0], [1], [2], [2], [1], [20], [50]])

    def test_the_least_free_number_is_given(self):
        line = [start(1)] + [ask(0, 9)] * 5 + [drop(3), drop(0), drop(2), ask(0, 9), ask(0, 9), ask(0, 9), ask(0, 9)]
        self.assertEqual(told(*line)[9:], [[0], [2], [3], [5]])


class Drop(unittest.TestCase):
    def test_answers_what_it_counts(self):
        self.assertEqual(told(start(1), ask(0, 2, 17), ask(0, 2, 0), drop(1), drop(0)),
                         [[0], [0], [1], [0], [17]])

    def test_it_asks_no_more(self):
        line = [start(1), ask(0, 1), ask(0, 1), drop(0), PLAN, LEFT, at(0), CAN, FEWEST, slot(0), slot(1)]
        self.assertEqual(told(*line)[4:], [[1, 1], [0], [1, 1], [1], [1], [-2], [0]])

    def test_the_others_keep_their_numbers(self):
        line = [start(1), ask(0, 4), ask(10, 14), ask(20, 24), drop(0), slot(1), slot(2), PLAN]
        self.assertEqual(told(*line)[5:], [[10], [20], [2, 11, 21]])

    def test_no_such_person(self):
        for i in [1, 9, 10, BIGGEST]:
            self.assertEqual(last(start(1), ask(0, 2), drop(i)), [-2], i)
        self.assertEqual(last(start(1), drop(0)), [-2])

    def test_nobody_is_dropped_twice(self):
        self.assertEqual(told(start(1), ask(0, 2, 3), drop(0), drop(0))[2:], [[3], [-2]])


class Move(unittest.TestCase):
    def test_answers_when_it_could_come(self):
        self.assertEqual(told(start(1), ask(3, 8), move(0, 10, 12), move(0, 39, 40), move(0, 0, 40), slot(0))[2:],
                         [[3, 8], [10, 12], [39, 40], [0]])

    def test_it_can_come_so_then(self):
        self.assertEqual(told(start(1), ask(0, 1), ask(0, 1), PLAN, move(0, 1, 2), PLAN, CAN, FEWEST)[3:],
                         [[1, 1, 0], [0, 1], [2, 2, 1], [1], [1]])

    def test_what_it_counts_stays(self):
        self.assertEqual(last(start(1), ask(3, 8, 77), move(0, 10, 12), drop(0)), [77])

    def test_the_others_stay(self):
        self.assertEqual(told(start(1), ask(3, 8, 1), ask(20, 30, 2), move(0, 10, 12), slot(1), move(1, 0, 1))[4:],
                         [[20], [20, 30]])

    def test_no_such_person(self):
        for i in [1, 10, BIGGEST]:
            self.assertEqual(last(start(1), ask(0, 2), move(i, 0, 2)), [-2], i)
        self.assertEqual(last(start(1), ask(0, 2), drop(0), move(0, 0, 2)), [-2])

    def test_a_wrong_time(self):
        for r, d in [(0, 0), (4, 4), (5, 4), (40, 40), (0, 41), (40, 41), (0, BIGGEST), (BIGGEST, 3)]:
            self.assertEqual(told(start(1), ask(2, 3), move(0, r, d), move(0, 0, 40))[2:], [[-22], [2, 3]], (r, d))

    def test_no_such_person_goes_before_a_wrong_time(self):
        for r, d in [(4, 4), (0, 41), (BIGGEST, BIGGEST)]:
            self.assertEqual(last(start(1), ask(0, 2), move(1, r, d)), [-2], (r, d))

    def test_it_may_be_moved_when_there_are_ten(self):
        self.assertEqual(last(*TEN, move(9, 0, 1)), [9, 40])


class Windows(unittest.TestCase):
    def test_answers_how_many_there_were(self):
        self.assertEqual(told(start(2), windows(4), windows(1), windows(3), windows(3)), [[0], [2], [4], [1], [3]])

    def test_others_are_refused_and_change_nothing(self):
        for m in [0, 5, 2 ** 31, BIGGEST]:
            self.assertEqual(told(start(2), windows(m), windows(1)), [[0], [-22], [2]], m)

    def test_the_plan_is_made_with_so_many(self):
        line = [start(1)] + [ask(0, 1)] * 5
        for m in [1, 2, 3, 4]:
            self.assertEqual(told(*line, windows(m), PLAN)[6:], [[1], [m] + [1] * m + [0] * (5 - m)])

    def test_persons_stay(self):
        self.assertEqual(told(start(1), ask(4, 6, 8), windows(2), ask(4, 6, 9), drop(0), drop(1))[3:],
                         [[1], [8], [9]])


if __name__ == "__main__":
    unittest.main()
