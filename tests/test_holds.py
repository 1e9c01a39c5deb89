"""What holds, a and b: on many books the plan and fewest are held against what the document says of them."""

import random
import unittest

from tests.line import CAN, FEWEST, LEFT, PLAN, ask, at, drop, move, slot, start, told, windows


def most_served(times, many_windows):
    """How many can be served in any way at all: places are found by making others give way."""
    holder = {}

    def find(person, tried):
        for place_slot in range(times[person][0], times[person][1]):
            for window in range(many_windows):
                place = (place_slot, window)
                if place in tried:
                    continue
                tried.add(place)
                if place not in holder or find(holder[place], tried):
                    holder[place] = person
                    return True
        return False

    return sum(1 for person in sorted(times) if find(person, set()))


def some_times(dice):
    """A few persons, crowded into a short stretch so that often not all can be served."""
    stretch = dice.choice([1, 2, 3, 5, 8, 40])
    begin = dice.randrange(0, 41 - stretch)
    times = {}
    for number in range(dice.randrange(0, 11)):
        r = dice.randrange(0, stretch)
        times[number] = (begin + r, begin + dice.randrange(r + 1, stretch + 1))
    return times


def asked(times):
    return [ask(times[number][0], times[number][1]) for number in sorted(times)]


class Holds(unittest.TestCase):
    def check_plan(self, times, many_windows, slots):
        """These three together leave one plan alone: that of the document."""
        self.assertTrue(all(times[n][0] <= slots[n] < times[n][1] for n in slots))
        there = {s: [n for n in slots if slots[n] == s] for s in range(40)}
        self.assertTrue(all(len(there[s]) <= many_windows for s in there))
        for n in times:
            for s in range(times[n][0], min(times[n][1], slots.get(n, 40))):
                self.assertEqual(len(there[s]), many_windows)
                self.assertTrue(all((times[other][1], other) < (times[n][1], n) for other in there[s]))

    def check_views(self, times, many_windows):
        """Plan, left, slot, at and can tell of one and the same plan; gives back fewest."""
        numbers = sorted(times)
        calls = [slot(n) for n in numbers] + [at(s) for s in range(40)] + [PLAN, LEFT, CAN, FEWEST]
        given = told(start(many_windows), *asked(times), *calls)[1 + len(times):]
        plan, left, can, fewest = given[-4:]
        slots = {n: place - 1 for n, place in zip(numbers, plan[1:]) if place > 0}
        self.assertEqual(len(plan), 1 + len(numbers))
        self.check_plan(times, many_windows, slots)
        self.assertEqual(plan[0], len(slots))
        self.assertEqual(plan[0], most_served(times, many_windows))
        unserved = [n for n in numbers if n not in slots]
        self.assertEqual(left, [len(unserved)] + unserved)
        self.assertEqual(given[:len(numbers)], [[slots.get(n, -33)] for n in numbers])
        for s in range(40):
            in_it = [n for n in numbers if slots.get(n) == s]
            self.assertEqual(given[len(numbers) + s], [len(in_it)] + in_it)
        self.assertEqual(can, [1 if not unserved else 0])
        return fewest

    def test_on_many_books(self):
        dice = random.Random(1)
        for turn in range(600):
            times = some_times(dice)
            with self.subTest(turn=turn, times=times):
                answers = [self.check_views(times, m) for m in [1, 2, 3, 4]]
                self.assertEqual(answers, [answers[0]] * 4)
                self.check_fewest(times, answers[0])

    def check_fewest(self, times, fewest):
        self.assertEqual(len(fewest), 1)
        self.assertEqual(most_served(times, fewest[0]), len(times))
        if fewest[0] > 0:
            self.assertLess(most_served(times, fewest[0] - 1), len(times))
        for m in [1, 2, 3, 4]:
            self.assertEqual(told(start(m), *asked(times), CAN)[-1], [1 if m >= fewest[0] else 0])

    def test_all_books_of_three_in_three_slots(self):
        every = [(r, d) for r in range(3) for d in range(r + 1, 4)]
        for first in every:
            for second in every:
                for third in every:
                    times = {0: first, 1: second, 2: third}
                    for m in [1, 2]:
                        self.check_fewest(times, self.check_views(times, m))


class LongLines(unittest.TestCase):
    """Whole lines of two hundred calls, with what they leave behind kept beside them."""

    def step(self, dice, kept):
        """One call that changes the book, and what it is to answer; kept is changed likewise."""
        persons = kept["persons"]
        i, r, d = dice.randrange(0, 12), dice.randrange(0, 42), dice.randrange(0, 43)
        v, m = dice.choice([0, 1, 50, 100, 101]), dice.randrange(0, 6)
        wrong_time = r >= d or d > 40
        name = dice.choice(["ask", "ask", "ask", "drop", "move", "windows"])
        if name == "ask":
            if wrong_time or v > 100:
                return ask(r, d, v), [-22]
            if len(persons) == 10:
                return ask(r, d, v), [-28]
            number = min(set(range(10)) - set(persons))
            persons[number] = (r, d, v)
            return ask(r, d, v), [number]
        if name == "windows":
            if m not in (1, 2, 3, 4):
                return windows(m), [-22]
            before, kept["windows"] = kept["windows"], m
            return windows(m), [before]
        if i not in persons:
            return (drop(i) if name == "drop" else move(i, r, d)), [-2]
        if name == "drop":
            return drop(i), [persons.pop(i)[2]]
        if wrong_time:
            return move(i, r, d), [-22]
        before = persons[i]
        persons[i] = (r, d, before[2])
        return move(i, r, d), [before[0], before[1]]

    def test_what_changes_is_answered_and_kept(self):
        for seed in range(60):
            dice = random.Random(seed)
            kept = {"persons": {}, "windows": 1}
            calls, wanted = [start(1)], [[0]]
            while len(calls) < 200:
                call, answer = self.step(dice, kept)
                calls.append(call)
                wanted.append(answer)
                if len(calls) < 200 and dice.randrange(0, 3) == 0:
                    times = {n: kept["persons"][n][:2] for n in kept["persons"]}
                    calls.append(CAN)
                    wanted.append([1 if most_served(times, kept["windows"]) == len(times) else 0])
            self.assertEqual(told(*calls), wanted, seed)


if __name__ == "__main__":
    unittest.main()
