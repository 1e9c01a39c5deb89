"""Point 3: fewest."""

import unittest

from tests.line import CAN, FEWEST, ask, drop, last, move, start, told, windows


def fewest(*asked):
    return last(start(1), *asked, FEWEST)


class Fewest(unittest.TestCase):
    def test_nobody(self):
        self.assertEqual(fewest(), [0])
        self.assertEqual(fewest(ask(0, 1), drop(0)), [0])

    def test_one_person(self):
        for r, d in [(0, 1), (39, 40), (0, 40)]:
            self.assertEqual(fewest(ask(r, d)), [1])

    def test_all_in_one_slot(self):
        for many in range(1, 11):
            self.assertEqual(fewest(*[ask(12, 13)] * many), [many])

    def test_rounded_up(self):
        self.assertEqual(fewest(*[ask(0, 3)] * 3), [1])
        self.assertEqual(fewest(*[ask(0, 3)] * 4), [2])
        self.assertEqual(fewest(*[ask(0, 3)] * 6), [2])
        self.assertEqual(fewest(*[ask(0, 3)] * 7), [3])

    def test_a_span_from_one_person_to_another(self):
        self.assertEqual(fewest(ask(0, 2), ask(1, 3), ask(0, 3), ask(1, 2)), [2])
        self.assertEqual(fewest(ask(5, 7), ask(6, 8), ask(5, 8)), [1])

    def test_a_span_within_a_longer_one(self):
        self.assertEqual(fewest(ask(0, 40), ask(0, 40), ask(9, 10), ask(9, 10), ask(9, 10)), [3])

    def test_two_spans_alike(self):
        self.assertEqual(fewest(ask(0, 1), ask(0, 1), ask(5, 6), ask(5, 6)), [2])
        self.assertEqual(fewest(ask(0, 4), ask(0, 4)), [1])

    def test_who_can_also_come_outside_is_not_held(self):
        self.assertEqual(fewest(ask(4, 5), ask(3, 5), ask(4, 6)), [1])

    def test_who_counts_nothing_needs_a_place_too(self):
        self.assertEqual(fewest(ask(4, 5, 0), ask(4, 5, 0)), [2])

    def test_the_windows_that_there_are_have_no_weight(self):
        for m in [1, 2, 3, 4]:
            self.assertEqual(last(start(m), *[ask(3, 4)] * 3, FEWEST), [3])

    def test_it_goes_with_move_and_drop(self):
        line = [start(1), ask(3, 4), ask(3, 4), ask(3, 4), FEWEST, move(1, 4, 5), FEWEST, drop(0), FEWEST]
        self.assertEqual(told(*line)[4::2], [[3], [2], [1]])

    def test_one_window_more_than_enough(self):
        line = [start(1)] + [ask(3, 5)] * 6 + [FEWEST, windows(2), CAN, windows(3), CAN, windows(4), CAN, FEWEST]
        self.assertEqual(told(*line)[7:], [[3], [1], [0], [2], [1], [3], [1], [3]])


if __name__ == "__main__":
    unittest.main()
