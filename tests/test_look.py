"""Point 5: look and state."""

import unittest

from tests.line import BIGGEST, STATE, ask, drop, last, look, move, start, told, windows


class Look(unittest.TestCase):
    def test_from_when_up_to_when_and_what_it_counts(self):
        line = [start(1), ask(3, 9, 7), ask(0, 40, 100), ask(39, 40, 0)]
        self.assertEqual(told(*line, look(0), look(1), look(2))[4:], [[3, 9, 7], [0, 40, 100], [39, 40, 0]])

    def test_no_such_person(self):
        for i in [1, 9, 10, BIGGEST]:
            self.assertEqual(last(start(1), ask(3, 9, 7), look(i)), [-2], i)
        self.assertEqual(last(start(1), look(0)), [-2])

    def test_after_move(self):
        self.assertEqual(told(start(1), ask(3, 9, 7), ask(1, 2, 3), move(0, 10, 12), look(0), look(1))[4:],
                         [[10, 12, 7], [1, 2, 3]])

    def test_after_a_refused_move(self):
        for r, d in [(4, 4), (5, 4), (0, 41)]:
            self.assertEqual(last(start(1), ask(3, 9, 7), move(0, r, d), look(0)), [3, 9, 7])

    def test_after_drop(self):
        line = [start(1), ask(3, 9, 7), ask(1, 2, 3), drop(0), look(0), look(1), ask(5, 6, 8), look(0)]
        self.assertEqual(told(*line)[4:], [[-2], [1, 2, 3], [0], [5, 6, 8]])

    def test_after_windows_and_start(self):
        line = [start(1), ask(3, 9, 7), windows(4), look(0), start(0), look(0), start(2), look(0)]
        self.assertEqual(told(*line)[3::2], [[3, 9, 7], [3, 9, 7], [-2]])

    def test_one_who_is_not_served(self):
        self.assertEqual(last(start(1), ask(0, 1, 4), ask(0, 1, 5), look(1)), [0, 1, 5])


class State(unittest.TestCase):
    def test_nobody(self):
        for m in [1, 2, 3, 4]:
            self.assertEqual(last(start(m), STATE), [0, m])

    def test_after_ask(self):
        line = [start(3)]
        for many in range(1, 11):
            line.append(ask(0, 1))
            self.assertEqual(last(*line, STATE), [many, 3])
        self.assertEqual(told(*line, ask(0, 1), STATE)[11:], [[-28], [10, 3]])

    def test_after_a_refused_ask(self):
        for call in [ask(3, 3), ask(0, 41), ask(0, 1, 101)]:
            self.assertEqual(last(start(2), call, STATE), [0, 2])

    def test_after_drop(self):
        line = [start(2), ask(0, 1), ask(0, 1), drop(0), STATE, drop(0), STATE, drop(1), STATE]
        self.assertEqual(told(*line)[4::2], [[1, 2], [1, 2], [0, 2]])

    def test_after_move(self):
        self.assertEqual(last(start(2), ask(0, 1), ask(0, 1), move(1, 3, 5), STATE), [2, 2])

    def test_after_windows(self):
        line = [start(2), ask(0, 1), windows(4), STATE, windows(0), STATE, windows(5), STATE, windows(1), STATE]
        self.assertEqual(told(*line)[3::2], [[1, 4], [1, 4], [1, 4], [1, 1]])

    def test_after_start(self):
        line = [start(2), ask(0, 1), start(5), STATE, start(3), STATE]
        self.assertEqual(told(*line)[2:], [[-22], [1, 2], [0], [0, 3]])


if __name__ == "__main__":
    unittest.main()
