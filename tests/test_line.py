"""How a line is read and answered, and what is answered ahead of a start."""

import unittest

import appointments.book
from appointments.book import answers
from tests.line import (BIGGEST, CAN, FEWEST, FREE, LEFT, PLAN, STATE, TIGHT, WORTHY, ask, at, could, drop, earliest,
                        flat, last, latest, load, look, move, slot, split, start, told, windows, worth)

READS = [
    PLAN, LEFT, slot(0), at(0), CAN, FEWEST, TIGHT, load(0, 4), WORTHY, worth(), worth(0), worth(2, 1, 0), earliest(0),
    latest(0), could(0, 4), FREE, look(0), STATE,
]

REFUSED_READS = [
    slot(BIGGEST), at(40), load(4, 3), load(0, 41), worth(0, 0), worth(BIGGEST), worth(*range(60)), earliest(BIGGEST),
    latest(BIGGEST), could(3, 3), could(0, 41), look(BIGGEST),
]

EVERY_OTHER_CALL = [ask(0, 3, 5), drop(0), move(0, 1, 2), windows(2)] + READS + REFUSED_READS

EACH_CALL_ANSWERED = [
    (start(2), [0]), (ask(0, 1, 7), [0]), (ask(0, 1, 8), [1]), (ask(0, 1, 9), [2]),
    (PLAN, [2, 1, 1, 0]), (LEFT, [1, 2]), (slot(0), [0]), (slot(2), [-33]), (slot(3), [-2]),
    (at(0), [2, 0, 1]), (at(40), [-22]), (FREE, [78]), (CAN, [0]),
    (FEWEST, [3]), (TIGHT, [3, 0, 1, 3]), (load(0, 1), [3]), (load(1, 0), [-22]),
    (WORTHY, [17, 1, 2]), (worth(1, 0), [15]), (worth(2, 1, 0), [-33]), (worth(0, 0), [-22]), (worth(), [0]),
    (earliest(0), [-33]), (latest(0), [-33]), (earliest(3), [-2]), (latest(3), [-2]),
    (could(1, 2), [0]), (could(4, 4), [-22]), (look(2), [0, 1, 9]), (look(3), [-2]), (STATE, [3, 2]),
    (move(2, 1, 3), [0, 1]), (PLAN, [3, 1, 1, 2]), (earliest(2), [1]), (latest(2), [2]),
    (could(1, 2), [1]), (could(0, 1), [0]), (FREE, [77]), (WORTHY, [24, 0, 1, 2]), (TIGHT, [2, 0, 1, 2]),
    (windows(3), [2]), (windows(5), [-22]), (drop(0), [7]), (drop(0), [-2]), (ask(5, 5, 0), [-22]), (start(0), [-22]),
    (LEFT, [0]), (look(2), [1, 3, 9]), (STATE, [2, 3]), (start(1), [0]), (TIGHT, [-6]), (STATE, [0, 1]),
]

EACH_CALL = [call for call, answer in EACH_CALL_ANSWERED]


class Form(unittest.TestCase):
    def test_each_answer_has_its_length_ahead(self):
        line = [0, 1, 1, 0, 1, 7, 1, 0, 1, 8, 5, 6, 3, 0, 2, 4, 9, 8, 40]
        self.assertEqual(appointments.book.answers(line),
                         [1, 0, 1, 0, 1, 1, 3, 1, 1, 0, 2, 1, 1, 2, 0, 1, 1, 1, 1, -22])

    def test_each_call_in_one_line(self):
        self.assertEqual({call[0] for call in EACH_CALL}, set(range(21)))
        self.assertEqual(told(*EACH_CALL), [answer for call, answer in EACH_CALL_ANSWERED])

    def test_one_call_alone(self):
        self.assertEqual(answers([0, 4]), [1, 0])
        self.assertEqual(answers([5]), [1, -11])
        self.assertEqual(answers([14, 0]), [1, -11])

    def test_the_longer_answers_have_their_length_ahead(self):
        line = [0, 1, 1, 3, 5, 9, 11, 13, 14, 1, 0, 14, 0, 19, 0, 20, 12, 3, 2]
        self.assertEqual(answers(line),
                         [1, 0, 1, 0, 4, 1, 3, 5, 1, 2, 9, 0, 1, 9, 1, 0, 3, 3, 5, 9, 2, 1, 1, 1, -22])

    def test_two_hundred_calls(self):
        line = [start(1)] + [ask(i % 10, 40, 0) for i in range(10)] + [PLAN] * 189
        self.assertEqual(told(*line)[11:], [[10, 1, 2, 3, 4, 5, 6, 7, 8, 9, 10]] * 189)

    def test_answers_are_whole_numbers_in_a_list(self):
        given = answers(flat(*EACH_CALL))
        self.assertIs(type(given), list)
        self.assertEqual({type(number) for number in given}, {int})

    def test_only_refusals_are_below_zero_and_these_stand_alone(self):
        for answer in told(*EACH_CALL):
            self.assertTrue(answer[0] >= 0 or len(answer) == 1)
            self.assertTrue(all(number >= 0 for number in answer[1:]))


class KeepsNothing(unittest.TestCase):
    def test_the_list_handed_in_is_as_it_was(self):
        line = flat(*EACH_CALL)
        before = list(line)
        answers(line)
        self.assertEqual(line, before)

    def test_the_list_handed_in_is_never_written(self):
        class ReadOnly(list):
            def refuse(self, *told_with_it):
                raise AssertionError("the list was written")
            __setitem__ = __delitem__ = __iadd__ = __imul__ = refuse
            append = clear = extend = insert = pop = remove = reverse = sort = refuse
        line = flat(*EACH_CALL)
        self.assertEqual(answers(ReadOnly(line)), answers(line))

    def test_the_same_list_gives_the_same_answers_again(self):
        line = flat(*EACH_CALL)
        given = answers(line)
        answers(flat(start(4), ask(3, 9, 1), windows(1)))
        self.assertEqual(answers(line), given)

    def test_a_changed_answer_changes_no_later_one(self):
        line = flat(*EACH_CALL)
        given = answers(line)
        kept = list(given)
        given.clear()
        self.assertEqual(answers(line), kept)

    def test_a_line_knows_nothing_of_the_line_before(self):
        answers(flat(start(2), ask(0, 3, 5)))
        self.assertEqual(split(answers(flat(PLAN))), [[-11]])
        self.assertEqual(told(start(1), PLAN), [[0], [0]])


class BeforeStart(unittest.TestCase):
    def test_every_other_call_is_refused(self):
        for call in EVERY_OTHER_CALL:
            self.assertEqual(told(call), [[-11]], call)

    def test_all_of_them_one_behind_another(self):
        self.assertEqual(told(*EVERY_OTHER_CALL), [[-11]] * len(EVERY_OTHER_CALL))

    def test_each_is_read_to_its_end_and_no_further(self):
        for call in EVERY_OTHER_CALL:
            self.assertEqual(told(call, start(3), windows(2)), [[-11], [0], [3]], call)

    def test_it_goes_before_every_other_refusal(self):
        for call in [ask(3, 3, 101), ask(BIGGEST, BIGGEST, BIGGEST), drop(BIGGEST), move(10, 4, 4), windows(0),
                     windows(5), at(BIGGEST)] + REFUSED_READS:
            self.assertEqual(told(call), [[-11]], call)

    def test_a_refused_start_starts_nothing(self):
        for m in [0, 5, BIGGEST]:
            for call in EVERY_OTHER_CALL:
                self.assertEqual(told(start(m), call), [[-22], [-11]], call)

    def test_what_came_ahead_of_the_start_has_done_nothing(self):
        self.assertEqual(told(ask(0, 3, 5), windows(3), start(1), PLAN, windows(1)),
                         [[-11], [-11], [0], [0], [1]])

    def test_a_start_behind_a_refused_one(self):
        self.assertEqual(told(start(0), start(2), PLAN, windows(1)), [[-22], [0], [0], [2]])


class StartAgain(unittest.TestCase):
    def test_nobody_has_asked_and_the_windows_are_the_new_ones(self):
        line = [start(1), ask(0, 1, 5), ask(0, 1, 5), start(3), PLAN, LEFT, CAN, FEWEST, slot(0), drop(0), windows(1)]
        self.assertEqual(told(*line), [[0], [0], [1], [0], [0], [0], [1], [0], [-2], [-2], [3]])

    def test_what_is_read_knows_of_nobody(self):
        reads = [TIGHT, load(0, 40), WORTHY, worth(), worth(0), earliest(0), latest(0), could(0, 1), FREE, look(0),
                 STATE]
        line = [start(1), ask(0, 1, 5), ask(0, 1, 5), start(3)] + reads
        self.assertEqual(told(*line)[4:],
                         [[-6], [0], [0], [0], [-22], [-2], [-2], [1], [120], [-2], [0, 3]])
        self.assertEqual(told(start(3), *reads), told(*line)[3:])

    def test_numbers_begin_at_nought_again(self):
        self.assertEqual(told(start(1), ask(0, 1), ask(0, 1), start(1), ask(4, 6), PLAN)[4:], [[0], [1, 5]])

    def test_ten_may_ask_again(self):
        line = [start(1)] + [ask(0, 40)] * 10 + [start(1)] + [ask(0, 40)] * 11
        self.assertEqual(told(*line)[12:], [[number] for number in range(10)] + [[-28]])

    def test_a_refused_one_leaves_all_as_it_was(self):
        for m in [0, 5, BIGGEST]:
            self.assertEqual(told(start(2), ask(3, 5, 9), start(m), PLAN, windows(1), drop(0)),
                             [[0], [0], [-22], [1, 4], [2], [9]])
            self.assertEqual(told(start(2), ask(3, 5, 9), start(m), *READS)[3:],
                             told(start(2), ask(3, 5, 9), *READS)[2:])


class ReadsChangeNothing(unittest.TestCase):
    def test_not_what_later_calls_answer(self):
        alone = told(*EACH_CALL)
        for read in READS + REFUSED_READS:
            line = [one for call in EACH_CALL for one in (call, read)]
            self.assertEqual(told(*line)[::2], alone, read)

    def test_nor_what_they_answer_themselves(self):
        for asked in [[], [ask(0, 2, 5)], [ask(0, 2, 5), ask(0, 1, 7), ask(1, 2, 7)], [ask(0, 40, 1)] * 10]:
            given = told(start(1), *asked, *READS, *READS, *READS[::-1])[1 + len(asked):]
            once = given[:len(READS)]
            self.assertEqual(given, once + once + once[::-1])


class Start(unittest.TestCase):
    def test_windows_from_one_to_four(self):
        for m in [1, 2, 3, 4]:
            self.assertEqual(told(start(m), windows(1)), [[0], [m]])

    def test_other_windows_are_refused(self):
        for m in [0, 5, 6, 2 ** 31, BIGGEST]:
            self.assertEqual(last(start(m)), [-22])


if __name__ == "__main__":
    unittest.main()
