"""What holds, a to d: on many books the answers are held against what the document says of them."""

import itertools
import random
import unittest

from tests.line import (CAN, FEWEST, FREE, LEFT, PLAN, TIGHT, WORTHY, ask, at, could, earliest, latest, load,
                        most_served, slot, start, told, worth)


def some_times(dice):
    """A few persons, crowded into a short stretch so that often not all can be served."""
    stretch = dice.choice([1, 2, 3, 5, 8, 40])
    begin = dice.randrange(0, 41 - stretch)
    times = {}
    for number in range(dice.randrange(0, 11)):
        r = dice.randrange(0, stretch)
        times[number] = (begin + r, begin + dice.randrange(r + 1, stretch + 1))
    return times


def asked(times):
    return [ask(times[number][0], times[number][1]) for number in sorted(times)]


class Holds(unittest.TestCase):
    def check_plan(self, times, many_windows, slots):
        """These three together leave one plan alone: that of the document."""
        self.assertTrue(all(times[n][0] <= slots[n] < times[n][1] for n in slots))
        there = {s: [n for n in slots if slots[n] == s] for s in range(40)}
        self.assertTrue(all(len(there[s]) <= many_windows for s in there))
        for n in times:
            for s in range(times[n][0], min(times[n][1], slots.get(n, 40))):
                self.assertEqual(len(there[s]), many_windows)
                self.assertTrue(all((times[other][1], other) < (times[n][1], n) for other in there[s]))

    def check_views(self, times, many_windows):
        """Plan, left, slot, at and can tell of one and the same plan; gives back fewest."""
        numbers = sorted(times)
        calls = [slot(n) for n in numbers] + [at(s) for s in range(40)] + [PLAN, LEFT, CAN, FEWEST]
        given = told(start(many_windows), *asked(times), *calls)[1 + len(times):]
        plan, left, can, fewest = given[-4:]
        slots = {n: place - 1 for n, place in zip(numbers, plan[1:]) if place > 0}
        self.assertEqual(len(plan), 1 + len(numbers))
        self.check_plan(times, many_windows, slots)
        self.assertEqual(plan[0], len(slots))
        self.assertEqual(plan[0], most_served(times, many_windows))
        unserved = [n for n in numbers if n not in slots]
        self.assertEqual(left, [len(unserved)] + unserved)
        self.assertEqual(given[:len(numbers)], [[slots.get(n, -33)] for n in numbers])
        for s in range(40):
            in_it = [n for n in numbers if slots.get(n) == s]
            self.assertEqual(given[len(numbers) + s], [len(in_it)] + in_it)
        self.assertEqual(can, [1 if not unserved else 0])
        return fewest

    def test_on_many_books(self):
        dice = random.Random(1)
        for turn in range(600):
            times = some_times(dice)
            with self.subTest(turn=turn, times=times):
                answers = [self.check_views(times, m) for m in [1, 2, 3, 4]]
                self.assertEqual(answers, [answers[0]] * 4)
                self.check_fewest(times, answers[0])

    def check_fewest(self, times, fewest):
        self.assertEqual(len(fewest), 1)
        self.assertEqual(most_served(times, fewest[0]), len(times))
        if fewest[0] > 0:
            self.assertLess(most_served(times, fewest[0] - 1), len(times))
        for m in [1, 2, 3, 4]:
            self.assertEqual(told(start(m), *asked(times), CAN)[-1], [1 if m >= fewest[0] else 0])

    def test_all_books_of_three_in_three_slots(self):
        every = [(r, d) for r in range(3) for d in range(r + 1, 4)]
        for first in every:
            for second in every:
                for third in every:
                    times = {0: first, 1: second, 2: third}
                    for m in [1, 2]:
                        self.check_fewest(times, self.check_views(times, m))


def ways(times, many_windows):
    """All ways that there are, each as the slots of those whom it serves."""
    numbers = sorted(times)
    found = []
    for places in itertools.product(*[[None] + list(range(*times[n])) for n in numbers]):
        taken = [place for place in places if place is not None]
        if all(taken.count(place) <= many_windows for place in taken):
            found.append({n: place for n, place in zip(numbers, places) if place is not None})
    return found


def is_there_one_for_all(times, many_windows):
    return any(len(way) == len(times) for way in ways(times, many_windows))


class AllWays(unittest.TestCase):
    """What holds, a to d, held against all ways that there are on small books."""

    def check(self, persons, m):
        times = {n: persons[n][:2] for n in persons}
        every = ways(times, m)
        line = [start(m)] + [ask(*persons[n]) for n in sorted(persons)]
        self.check_a(line, times, m, every)
        self.check_b(line, times)
        self.check_c(line, persons, every)
        self.check_d(line, times, every)
        self.check_could(line, times, m)

    def check_a(self, line, times, m, every):
        plan, can, free = told(*line, PLAN, CAN, FREE)[-3:]
        most = max(len(way) for way in every)
        slots = {n: place - 1 for n, place in zip(sorted(times), plan[1:]) if place > 0}
        self.assertIn(slots, every)
        self.assertEqual(plan[0], most)
        self.assertEqual(can, [1 if most == len(times) else 0])
        self.assertEqual(free, [40 * m - most])

    def check_b(self, line, times):
        fewest, tight = told(*line, FEWEST, TIGHT)[-2:]
        self.assertTrue(is_there_one_for_all(times, fewest[0]))
        self.assertEqual(tight == [-6], not times)
        if times:
            self.assertFalse(is_there_one_for_all(times, fewest[0] - 1))
            held = [n for n in times if tight[1] <= times[n][0] and times[n][1] <= tight[2]]
            self.assertEqual(tight[3], len(held))
            self.assertEqual(tight[0], fewest[0])
            self.assertTrue((tight[0] - 1) * (tight[2] - tight[1]) < len(held) <= tight[0] * (tight[2] - tight[1]))
            self.assertEqual(told(*line, load(tight[1], tight[2]))[-1], [len(held)])

    def check_c(self, line, persons, every):
        def together(numbers):
            return sum(persons[n][2] for n in numbers)
        served = {tuple(sorted(way)) for way in every}
        worthy = told(*line, WORTHY)[-1]
        taken = tuple(worthy[1:])
        self.assertIn(taken, served)
        self.assertEqual(worthy[0], together(taken))
        self.assertEqual(worthy[0], max(together(numbers) for numbers in served))
        self.assertEqual(len(taken), max(len(numbers) for numbers in served))
        for many in range(len(persons) + 1):
            for numbers in itertools.permutations(sorted(persons), many):
                wanted = together(numbers) if tuple(sorted(numbers)) in served else -33
                self.assertEqual(told(*line, worth(*numbers))[-1], [wanted])

    def check_d(self, line, times, every):
        for n in times:
            slots = [way[n] for way in every if len(way) == len(times)]
            self.assertEqual(told(*line, earliest(n), latest(n))[-2:],
                             [[min(slots, default=-33)], [max(slots, default=-33)]])

    def check_could(self, line, times, m):
        begin = min([times[n][0] for n in times], default=4)
        for r, d in [(begin, begin + 1), (begin + 1, begin + 2), (begin, begin + 3)]:
            wanted = is_there_one_for_all({**times, len(times): (r, d)}, m)
            self.assertEqual(told(*line, could(r, d))[-1], [1 if wanted else 0])

    def test_nobody(self):
        for m in [1, 2, 3, 4]:
            self.check({}, m)

    def test_all_books_of_two_in_three_slots(self):
        every = [(r, d) for r in range(3) for d in range(r + 1, 4)]
        for first, second in itertools.product(every, every):
            for v, w in [(0, 0), (0, 1), (1, 0), (2, 2)]:
                for m in [1, 2]:
                    self.check({0: first + (v,), 1: second + (w,)}, m)

    def test_on_many_books(self):
        dice = random.Random(2)
        for turn in range(250):
            stretch = dice.choice([1, 2, 3, 3, 4])
            begin = dice.choice([0, 7, 38 - stretch])
            persons = {}
            for number in range(dice.randrange(2, 5)):
                r = dice.randrange(0, stretch)
                d = dice.randrange(r + 1, stretch + 1)
                persons[number] = (begin + r, begin + d, dice.choice([0, 1, 1, 2, 3, 100]))
            with self.subTest(turn=turn, persons=persons):
                self.check(persons, dice.choice([1, 1, 1, 2, 3]))


if __name__ == "__main__":
    unittest.main()
