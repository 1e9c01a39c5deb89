"""Point 4: earliest, latest and could."""

import unittest

from tests.line import BIGGEST, CAN, STATE, ask, could, drop, earliest, last, latest, move, start, told, windows


def both(i, *calls):
    """What earliest and latest answer of one person behind these calls."""
    return told(*calls, earliest(i), latest(i))[-2:]


class EarliestAndLatest(unittest.TestCase):
    def test_no_such_person(self):
        for i in [2, 9, 10, BIGGEST]:
            self.assertEqual(both(i, start(1), ask(0, 2), ask(0, 2)), [[-2], [-2]], i)
        self.assertEqual(both(0, start(1)), [[-2], [-2]])
        self.assertEqual(both(0, start(1), ask(0, 2), drop(0)), [[-2], [-2]])
        self.assertEqual(both(0, start(1), ask(0, 2), start(1)), [[-2], [-2]])

    def test_no_such_person_goes_before_none(self):
        self.assertEqual(both(2, start(1), ask(0, 1), ask(0, 1)), [[-2], [-2]])

    def test_one_alone(self):
        self.assertEqual(both(0, start(1), ask(3, 9)), [[3], [8]])
        self.assertEqual(both(0, start(1), ask(0, 40)), [[0], [39]])

    def test_a_time_of_one_slot(self):
        self.assertEqual(both(0, start(1), ask(0, 1)), [[0], [0]])
        self.assertEqual(both(0, start(1), ask(39, 40)), [[39], [39]])
        self.assertEqual(both(1, start(1), ask(3, 9), ask(5, 6)), [[5], [5]])

    def test_none_where_not_all_can_be_served(self):
        crowd = [start(1), ask(0, 1), ask(0, 1), ask(5, 9)]
        for i in [0, 1, 2]:
            self.assertEqual(both(i, *crowd), [[-33], [-33]], i)
        self.assertEqual(both(2, *crowd, drop(0)), [[5], [8]])

    def test_none_though_the_plan_serves_it(self):
        self.assertEqual(both(0, start(1), ask(0, 1), ask(0, 1)), [[-33], [-33]])

    def test_slots_that_others_need_are_passed_over(self):
        self.assertEqual(both(0, start(1), ask(0, 4), ask(0, 1), ask(3, 4)), [[1], [2]])
        self.assertEqual(both(0, start(1), ask(0, 9), ask(0, 3), ask(0, 3), ask(0, 3)), [[3], [8]])
        self.assertEqual(both(0, start(1), ask(0, 9), ask(6, 9), ask(6, 9), ask(6, 9)), [[0], [5]])

    def test_others_give_way(self):
        line = [start(1), ask(0, 2), ask(0, 2)]
        self.assertEqual(both(0, *line), [[0], [1]])
        self.assertEqual(both(1, *line), [[0], [1]])
        self.assertEqual(both(1, start(1), ask(0, 5), ask(0, 6), ask(2, 4)), [[0], [5]])

    def test_only_one_slot_is_left_for_it(self):
        self.assertEqual(both(0, start(1), ask(0, 3), ask(0, 1), ask(2, 3)), [[1], [1]])
        self.assertEqual(both(3, start(1), ask(0, 2), ask(0, 2), ask(3, 4), ask(0, 4)), [[2], [2]])

    def test_a_slot_between_may_be_one_that_others_need(self):
        self.assertEqual(both(0, start(1), ask(0, 3), ask(1, 2)), [[0], [2]])

    def test_not_the_slot_of_the_plan(self):
        self.assertEqual(both(1, start(1), ask(0, 4), ask(0, 5)), [[0], [4]])

    def test_with_several_windows(self):
        for m in [1, 2, 3, 4]:
            self.assertEqual(both(0, start(m), ask(0, 3), *[ask(0, 1)] * (m - 1)), [[0], [2]])
            self.assertEqual(both(0, start(m), ask(0, 3), *[ask(0, 1)] * m), [[1], [2]])
            self.assertEqual(both(0, start(m), ask(0, 3), *[ask(2, 3)] * m), [[0], [1]])
            self.assertEqual(both(0, start(m), ask(0, 3), *[ask(2, 3)] * (m + 1)), [[-33], [-33]])

    def test_it_goes_with_windows_move_and_drop(self):
        line = [start(1), ask(0, 4), ask(0, 1), ask(3, 4)]
        self.assertEqual(both(0, *line, windows(2)), [[0], [3]])
        self.assertEqual(both(0, *line, move(1, 3, 4)), [[-33], [-33]])
        self.assertEqual(both(0, *line, drop(1)), [[0], [2]])
        self.assertEqual(both(0, *line, move(0, 10, 12)), [[10], [11]])

    def test_ten_persons(self):
        line = [start(1)] + [ask(0, 10)] * 10
        self.assertEqual(both(9, *line), [[0], [9]])
        self.assertEqual(both(0, *line, move(0, 0, 40)), [[0], [39]])
        line = [start(1), ask(0, 40)] + [ask(0, 9)] * 9
        self.assertEqual(both(0, *line), [[9], [39]])
        self.assertEqual(both(9, *line), [[0], [8]])

    def test_what_they_count_has_no_weight(self):
        self.assertEqual(both(0, start(1), ask(0, 4, 100), ask(0, 1, 0), ask(3, 4, 0)), [[1], [2]])
        self.assertEqual(both(0, start(1), ask(0, 1, 100), ask(0, 1, 0)), [[-33], [-33]])

    def test_asking_changes_nothing(self):
        line = [start(1), ask(0, 4), ask(0, 1), ask(3, 4)]
        self.assertEqual(told(*line, earliest(0), latest(0), earliest(0), latest(0), CAN, move(0, 0, 1))[4:],
                         [[1], [2], [1], [2], [1], [0, 4]])


class Could(unittest.TestCase):
    def test_nobody(self):
        for r, d in [(0, 1), (39, 40), (0, 40), (3, 4)]:
            self.assertEqual(last(start(1), could(r, d)), [1], (r, d))

    def test_from_must_be_before_to(self):
        for r, d in [(0, 0), (3, 3), (4, 3), (39, 39), (40, 40), (39, 0), (BIGGEST, 40), (BIGGEST, BIGGEST)]:
            self.assertEqual(last(start(1), could(r, d)), [-22], (r, d))

    def test_to_is_at_most_forty(self):
        for r, d in [(10, 41), (40, 41), (0, 41), (0, BIGGEST), (BIGGEST - 1, BIGGEST)]:
            self.assertEqual(last(start(1), could(r, d)), [-22], (r, d))

    def test_room_and_none(self):
        line = [start(1), ask(3, 4)]
        self.assertEqual(last(*line, could(3, 4)), [0])
        self.assertEqual(last(*line, could(3, 5)), [1])
        self.assertEqual(last(*line, could(2, 4)), [1])
        self.assertEqual(last(*line, could(4, 5)), [1])

    def test_others_give_way(self):
        self.assertEqual(last(start(1), ask(3, 5), could(3, 4)), [1])
        self.assertEqual(last(start(1), ask(3, 5), ask(4, 5), could(3, 4)), [0])
        self.assertEqual(last(start(1), ask(3, 5), ask(4, 6), could(3, 4)), [1])

    def test_not_where_all_cannot_be_served_already(self):
        self.assertEqual(last(start(1), ask(3, 4), ask(3, 4), could(20, 30)), [0])

    def test_with_several_windows(self):
        for m in [1, 2, 3, 4]:
            self.assertEqual(last(start(m), *[ask(3, 4)] * (m - 1), could(3, 4)), [1])
            self.assertEqual(last(start(m), *[ask(3, 4)] * m, could(3, 4)), [0])
            self.assertEqual(last(start(m), *[ask(3, 5)] * (2 * m - 1), could(3, 5)), [1])
            self.assertEqual(last(start(m), *[ask(3, 5)] * (2 * m), could(3, 5)), [0])

    def test_while_there_are_ten(self):
        ten = [start(1)] + [ask(0, 10)] * 10
        self.assertEqual(told(*ten, could(0, 10), could(0, 11), could(10, 11), could(0, 40), could(5, 5))[11:],
                         [[0], [1], [1], [1], [-22]])
        self.assertEqual(told(*ten, could(10, 11), ask(10, 11), STATE)[11:], [[1], [-28], [10, 1]])

    def test_while_a_number_between_is_free(self):
        line = [start(1), ask(0, 1), ask(1, 2), ask(2, 3), drop(1)]
        self.assertEqual(told(*line, could(1, 2), could(2, 3), could(0, 1), could(0, 3))[5:], [[1], [0], [0], [1]])

    def test_nobody_is_added(self):
        line = [start(1), ask(3, 5, 8)]
        self.assertEqual(told(*line, could(3, 5), could(3, 5), could(3, 5), STATE, ask(3, 5), could(3, 5))[2:],
                         [[1], [1], [1], [1, 1], [1], [0]])

    def test_it_says_what_can_answers_after_such_an_ask(self):
        line = [start(2), ask(0, 1), ask(0, 2), ask(1, 2), ask(0, 2)]
        for r in range(4):
            for d in range(r + 1, 5):
                self.assertEqual(last(*line, could(r, d)), last(*line, ask(r, d), CAN), (r, d))
                self.assertEqual(last(*line, windows(1), could(r, d)), [0])


if __name__ == "__main__":
    unittest.main()
