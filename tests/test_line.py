"""How a line is read and answered, and what is answered ahead of a start."""

import unittest

import appointments.book
from appointments.book import answers
from tests.line import (BIGGEST, CAN, FEWEST, LEFT, PLAN, ask, at, drop, flat, last, move, slot, split, start, told,
                        windows)

EVERY_OTHER_CALL = [
    ask(0, 3, 5), drop(0), move(0, 1, 2), windows(2), PLAN, LEFT, slot(0), at(0), CAN, FEWEST,
    (11,), (12, 0, 4), (13,), (14, 0), (14, 3, 0, 1, 2), (15, 0), (16, 0), (17, 0, 4), (18,), (19, 0), (20,),
]

EACH_BUILT_CALL = [
    start(2), ask(0, 1, 7), ask(0, 1, 8), ask(0, 1, 9), PLAN, LEFT, slot(0), slot(2), slot(3), at(0), at(40), CAN,
    FEWEST, move(2, 1, 2), PLAN, windows(3), windows(5), drop(0), drop(0), ask(5, 5, 0), start(0), LEFT,
]


class Form(unittest.TestCase):
    def test_each_answer_has_its_length_ahead(self):
        line = [0, 1, 1, 0, 1, 7, 1, 0, 1, 8, 5, 6, 3, 0, 2, 4, 9, 8, 40]
        self.assertEqual(appointments.book.answers(line),
                         [1, 0, 1, 0, 1, 1, 3, 1, 1, 0, 2, 1, 1, 2, 0, 1, 1, 1, 1, -22])

    def test_each_call_in_one_line(self):
        self.assertEqual(told(*EACH_BUILT_CALL), [
            [0], [0], [1], [2], [2, 1, 1, 0], [1, 2], [0], [-33], [-2], [2, 0, 1], [-22], [0],
            [3], [0, 1], [3, 1, 1, 2], [2], [-22], [7], [-2], [-22], [-22], [0],
        ])

    def test_one_call_alone(self):
        self.assertEqual(answers([0, 4]), [1, 0])
        self.assertEqual(answers([5]), [1, -11])

    def test_two_hundred_calls(self):
        line = [start(1)] + [ask(i % 10, 40, 0) for i in range(10)] + [PLAN] * 189
        self.assertEqual(told(*line)[11:], [[10, 1, 2, 3, 4, 5, 6, 7, 8, 9, 10]] * 189)

    def test_answers_are_whole_numbers_in_a_list(self):
        given = answers(flat(*EACH_BUILT_CALL))
        self.assertIs(type(given), list)
        self.assertEqual({type(number) for number in given}, {int})

    def test_only_refusals_are_below_zero_and_these_stand_alone(self):
        for answer in told(*EACH_BUILT_CALL):
            self.assertTrue(answer[0] >= 0 or len(answer) == 1)
            self.assertTrue(all(number >= 0 for number in answer[1:]))


class KeepsNothing(unittest.TestCase):
    def test_the_list_handed_in_is_as_it_was(self):
        line = flat(*EACH_BUILT_CALL)
        before = list(line)
        answers(line)
        self.assertEqual(line, before)

    def test_the_list_handed_in_is_never_written(self):
        class ReadOnly(list):
            def refuse(self, *told_with_it):
                raise AssertionError("the list was written")
            __setitem__ = __delitem__ = __iadd__ = __imul__ = refuse
            append = clear = extend = insert = pop = remove = reverse = sort = refuse
        line = flat(*EACH_BUILT_CALL)
        self.assertEqual(answers(ReadOnly(line)), answers(line))

    def test_the_same_list_gives_the_same_answers_again(self):
        line = flat(*EACH_BUILT_CALL)
        given = answers(line)
        answers(flat(start(4), ask(3, 9, 1), windows(1)))
        self.assertEqual(answers(line), given)

    def test_a_changed_answer_changes_no_later_one(self):
        line = flat(*EACH_BUILT_CALL)
        given = answers(line)
        kept = list(given)
        given.clear()
        self.assertEqual(answers(line), kept)

    def test_a_line_knows_nothing_of_the_line_before(self):
        answers(flat(start(2), ask(0, 3, 5)))
        self.assertEqual(split(answers(flat(PLAN))), [[-11]])
        self.assertEqual(told(start(1), PLAN), [[0], [0]])


class BeforeStart(unittest.TestCase):
    def test_every_other_call_is_refused(self):
        for call in EVERY_OTHER_CALL:
            self.assertEqual(told(call), [[-11]], call)

    def test_all_of_them_one_behind_another(self):
        self.assertEqual(told(*EVERY_OTHER_CALL), [[-11]] * len(EVERY_OTHER_CALL))

    def test_each_is_read_to_its_end_and_no_further(self):
        for call in EVERY_OTHER_CALL:
            self.assertEqual(told(call, start(3), windows(2)), [[-11], [0], [3]], call)

    def test_it_goes_before_every_other_refusal(self):
        for call in [ask(3, 3, 101), ask(BIGGEST, BIGGEST, BIGGEST), drop(BIGGEST), move(10, 4, 4), windows(0),
                     windows(5), slot(BIGGEST), at(40), at(BIGGEST)]:
            self.assertEqual(told(call), [[-11]], call)

    def test_a_refused_start_starts_nothing(self):
        for m in [0, 5, BIGGEST]:
            for call in EVERY_OTHER_CALL:
                self.assertEqual(told(start(m), call), [[-22], [-11]], call)

    def test_what_came_ahead_of_the_start_has_done_nothing(self):
        self.assertEqual(told(ask(0, 3, 5), windows(3), start(1), PLAN, windows(1)),
                         [[-11], [-11], [0], [0], [1]])

    def test_a_start_behind_a_refused_one(self):
        self.assertEqual(told(start(0), start(2), PLAN, windows(1)), [[-22], [0], [0], [2]])


class StartAgain(unittest.TestCase):
    def test_nobody_has_asked_and_the_windows_are_the_new_ones(self):
        line = [start(1), ask(0, 1, 5), ask(0, 1, 5), start(3), PLAN, LEFT, CAN, FEWEST, slot(0), drop(0), windows(1)]
        self.assertEqual(told(*line), [[0], [0], [1], [0], [0], [0], [1], [0], [-2], [-2], [3]])

    def test_numbers_begin_at_nought_again(self):
        self.assertEqual(told(start(1), ask(0, 1), ask(0, 1), start(1), ask(4, 6), PLAN)[4:], [[0], [1, 5]])

    def test_ten_may_ask_again(self):
        line = [start(1)] + [ask(0, 40)] * 10 + [start(1)] + [ask(0, 40)] * 11
        self.assertEqual(told(*line)[12:], [[number] for number in range(10)] + [[-28]])

    def test_a_refused_one_leaves_all_as_it_was(self):
        for m in [0, 5, BIGGEST]:
            self.assertEqual(told(start(2), ask(3, 5, 9), start(m), PLAN, windows(1), drop(0)),
                             [[0], [0], [-22], [1, 4], [2], [9]])


class Start(unittest.TestCase):
    def test_windows_from_one_to_four(self):
        for m in [1, 2, 3, 4]:
            self.assertEqual(told(start(m), windows(1)), [[0], [m]])

    def test_other_windows_are_refused(self):
        for m in [0, 5, 6, 2 ** 31, BIGGEST]:
            self.assertEqual(last(start(m)), [-22])


if __name__ == "__main__":
    unittest.main()
