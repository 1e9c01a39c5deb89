"""Point 2: plan, left, slot, at, free and can."""

import unittest

from tests.line import BIGGEST, CAN, FREE, LEFT, PLAN, ask, at, drop, last, move, slot, start, told, windows


def views(*calls):
    """What plan, left and can answer behind these calls."""
    return told(*calls, PLAN, LEFT, CAN)[-3:]


class Plan(unittest.TestCase):
    def test_nobody(self):
        self.assertEqual(views(start(1)), [[0], [0], [1]])
        self.assertEqual(views(start(4), ask(0, 1), drop(0)), [[0], [0], [1]])

    def test_one_comes_in_its_first_slot(self):
        self.assertEqual(views(start(1), ask(7, 30)), [[1, 8], [0], [1]])

    def test_whose_time_ends_first_is_first(self):
        self.assertEqual(views(start(1), ask(0, 9), ask(0, 5), ask(0, 2)), [[3, 3, 2, 1], [0], [1]])

    def test_of_like_ends_the_lesser_number_is_first(self):
        self.assertEqual(views(start(1), ask(0, 4), ask(0, 4), ask(0, 4)), [[3, 1, 2, 3], [0], [1]])

    def test_the_lesser_number_goes_first_even_if_it_came_later(self):
        line = [start(1), ask(0, 4), ask(0, 4), ask(0, 4), drop(0), ask(0, 4)]
        self.assertEqual(views(*line), [[3, 1, 2, 3], [0], [1]])
        line = [start(1), ask(30, 31), ask(0, 1), drop(0), ask(0, 1)]
        self.assertEqual(views(*line), [[1, 1, 0], [1, 1], [0]])

    def test_of_like_ends_the_one_who_can_come_sooner_has_no_right(self):
        self.assertEqual(views(start(1), ask(1, 4), ask(0, 4), ask(0, 4)), [[3, 2, 1, 3], [0], [1]])

    def test_what_one_counts_has_no_weight(self):
        self.assertEqual(views(start(1), ask(0, 1, 0), ask(0, 1, 100)), [[1, 1, 0], [1, 1], [0]])

    def test_who_counts_nothing_is_served_like_others(self):
        self.assertEqual(views(start(1), ask(0, 2, 0), ask(0, 1, 0)), [[2, 2, 1], [0], [1]])

    def test_as_many_in_a_slot_as_there_are_windows(self):
        line = [ask(0, 40)] * 10
        self.assertEqual(last(start(1), *line, PLAN), [10, 1, 2, 3, 4, 5, 6, 7, 8, 9, 10])
        self.assertEqual(last(start(2), *line, PLAN), [10, 1, 1, 2, 2, 3, 3, 4, 4, 5, 5])
        self.assertEqual(last(start(3), *line, PLAN), [10, 1, 1, 1, 2, 2, 2, 3, 3, 3, 4])
        self.assertEqual(last(start(4), *line, PLAN), [10, 1, 1, 1, 1, 2, 2, 2, 2, 3, 3])

    def test_a_time_of_one_slot(self):
        self.assertEqual(views(start(1), ask(0, 40), ask(0, 1), ask(1, 2)), [[3, 3, 1, 2], [0], [1]])
        self.assertEqual(views(start(1), ask(39, 40)), [[1, 40], [0], [1]])

    def test_nobody_is_served_at_the_end_of_its_time(self):
        self.assertEqual(views(start(1), ask(4, 5), ask(4, 5)), [[1, 5, 0], [1, 1], [0]])
        self.assertEqual(views(start(1), ask(39, 40), ask(39, 40)), [[1, 40, 0], [1, 1], [0]])

    def test_all_in_one_slot(self):
        line = [ask(17, 18)] * 10
        for m in [1, 2, 3, 4]:
            self.assertEqual(views(start(m), *line),
                             [[m] + [18] * m + [0] * (10 - m), [10 - m] + list(range(m, 10)), [0]])

    def test_one_who_comes_later_and_ends_sooner_goes_ahead(self):
        self.assertEqual(views(start(1), ask(0, 10), ask(0, 9), ask(1, 2)), [[3, 3, 1, 2], [0], [1]])

    def test_dropped_numbers_are_passed_over(self):
        self.assertEqual(views(start(1), ask(0, 1), ask(0, 1), ask(0, 1), ask(2, 3), drop(1)),
                         [[2, 1, 0, 3], [1, 2], [0]])


class Left(unittest.TestCase):
    def test_those_who_are_not_served_rising(self):
        line = [start(2), ask(5, 6), ask(4, 6), ask(5, 6), ask(4, 5), ask(5, 6), ask(5, 6)]
        self.assertEqual(views(*line), [[4, 6, 5, 6, 5, 0, 0], [2, 4, 5], [0]])

    def test_rising_though_the_lesser_number_came_later(self):
        line = [start(1), ask(9, 10), ask(9, 10), ask(0, 1), ask(0, 1), drop(0), ask(9, 10), drop(1), ask(0, 1)]
        self.assertEqual(views(*line), [[2, 10, 1, 0, 0], [2, 2, 3], [0]])
        line = [start(1), ask(0, 1), ask(0, 2), ask(0, 1), ask(0, 1), drop(1), ask(0, 1)]
        self.assertEqual(views(*line), [[1, 1, 0, 0, 0], [3, 1, 2, 3], [0]])

    def test_a_greater_number_is_served_while_a_lesser_one_is_left(self):
        self.assertEqual(views(start(1), ask(0, 1), ask(0, 1), ask(1, 2)), [[2, 1, 0, 2], [1, 1], [0]])

    def test_one_who_waited_and_is_like_a_greater_number_goes_ahead(self):
        self.assertEqual(views(start(1), ask(0, 2), ask(0, 1), ask(1, 2)), [[2, 2, 1, 0], [1, 2], [0]])


class Slot(unittest.TestCase):
    def test_the_slot_of_one_who_is_served(self):
        self.assertEqual(told(start(1), ask(0, 9), ask(0, 1), slot(0), slot(1))[3:], [[1], [0]])
        self.assertEqual(last(start(1), ask(39, 40), slot(0)), [39])

    def test_one_who_is_not_served(self):
        self.assertEqual(last(start(1), ask(0, 1), ask(0, 1), slot(1)), [-33])

    def test_no_such_person(self):
        for i in [2, 9, 10, BIGGEST]:
            self.assertEqual(last(start(1), ask(0, 1), ask(0, 1), slot(i)), [-2], i)
        self.assertEqual(last(start(1), slot(0)), [-2])
        self.assertEqual(last(start(1), ask(0, 1), drop(0), slot(0)), [-2])


class At(unittest.TestCase):
    def test_those_who_are_served_in_it_rising(self):
        line = [start(3), ask(2, 9), ask(2, 4), ask(2, 3), ask(3, 4), ask(2, 9)]
        self.assertEqual(told(*line, at(1), at(2), at(3), at(4))[6:], [[0], [3, 0, 1, 2], [2, 3, 4], [0]])

    def test_rising_though_the_greater_number_went_first(self):
        line = [start(2), ask(0, 9), ask(0, 1)]
        self.assertEqual(last(*line, at(0)), [2, 0, 1])

    def test_the_last_slot_and_the_one_behind_it(self):
        self.assertEqual(told(start(2), ask(39, 40), at(39), at(40))[2:], [[1, 0], [-22]])
        self.assertEqual(told(start(2), at(0), at(39))[1:], [[0], [0]])

    def test_slots_above(self):
        for s in [40, 41, 2 ** 31, BIGGEST]:
            self.assertEqual(last(start(1), ask(0, 40), at(s)), [-22], s)


class Free(unittest.TestCase):
    def test_nobody(self):
        for m in [1, 2, 3, 4]:
            self.assertEqual(last(start(m), FREE), [40 * m])

    def test_each_who_is_served_takes_one_place(self):
        line = [start(1)]
        for many in range(1, 11):
            line.append(ask(0, 40))
            self.assertEqual(last(*line, FREE), [40 - many])

    def test_who_is_left_takes_none(self):
        for m in [1, 2, 3, 4]:
            self.assertEqual(last(start(m), *[ask(5, 6)] * 10, FREE), [39 * m])

    def test_after_windows(self):
        line = [start(1), ask(5, 6), ask(5, 6), ask(5, 6), FREE, windows(2), FREE, windows(4), FREE, windows(5), FREE]
        self.assertEqual(told(*line)[4::2], [[39], [78], [157], [157]])

    def test_after_move_drop_and_start(self):
        line = [start(1), ask(5, 6), ask(5, 6), FREE, move(0, 7, 8), FREE, drop(1), FREE, start(2), FREE]
        self.assertEqual(told(*line)[3::2], [[39], [38], [39], [80]])


class Can(unittest.TestCase):
    def test_just_enough_and_one_too_many(self):
        for m in [1, 2, 3, 4]:
            enough = [start(m)] + [ask(6, 8)] * (2 * m)
            self.assertEqual(last(*enough, CAN), [1])
            self.assertEqual(last(*enough, ask(6, 8), CAN), [0])
            self.assertEqual(last(*enough, ask(6, 9), CAN), [1])

    def test_it_goes_with_the_windows(self):
        line = [start(1), ask(0, 1), ask(0, 1), CAN, windows(2), CAN, windows(3), CAN, windows(1), CAN]
        self.assertEqual(told(*line)[3::2], [[0], [1], [1], [0]])


if __name__ == "__main__":
    unittest.main()
