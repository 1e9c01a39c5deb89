"""Lines of two hundred calls that mix all calls, held against a second book that finds its answers in other ways."""

import random
import unittest

from appointments.book import answers
from tests.line import BIGGEST, flat, most_served, split


def wrong_time(r, d):
    return not 0 <= r < d <= 40


class SecondBook:
    """Whether all can be served it finds by trying out places, never by the plan."""

    def __init__(self):
        self.many = None
        self.persons = {}

    def answer(self, call):
        names = ["start", "ask", "drop", "move", "windows", "plan", "left", "slot", "at", "can", "fewest", "tight",
                 "load", "worthy", "worth", "earliest", "latest", "could", "free", "look", "state"]
        name = names[call[0]]
        if self.many is None and name != "start":
            return [-11]
        if name in ("drop", "move", "slot", "earliest", "latest", "look") and call[1] not in self.persons:
            return [-2]
        return getattr(self, name)(*call[1:])

    def times(self, numbers=None):
        return {n: self.persons[n][:2] for n in (self.persons if numbers is None else numbers)}

    def all_can(self, times):
        return most_served(times, self.many) == len(times)

    def slots(self):
        """The plan, person by person in each slot."""
        slots = {}
        for place in range(40 * self.many):
            now = place // self.many
            waiting = [(self.persons[n][1], n) for n in self.persons
                       if n not in slots and self.persons[n][0] <= now < self.persons[n][1]]
            if waiting:
                slots[min(waiting)[1]] = now
        return slots

    def start(self, m):
        if m not in (1, 2, 3, 4):
            return [-22]
        self.many, self.persons = m, {}
        return [0]

    def ask(self, r, d, v):
        if wrong_time(r, d) or v > 100:
            return [-22]
        if len(self.persons) == 10:
            return [-28]
        number = min(set(range(10)) - set(self.persons))
        self.persons[number] = (r, d, v)
        return [number]

    def drop(self, i):
        return [self.persons.pop(i)[2]]

    def move(self, i, r, d):
        if wrong_time(r, d):
            return [-22]
        before = self.persons[i]
        self.persons[i] = (r, d, before[2])
        return [before[0], before[1]]

    def windows(self, m):
        if m not in (1, 2, 3, 4):
            return [-22]
        before, self.many = self.many, m
        return [before]

    def plan(self):
        slots = self.slots()
        return [len(slots)] + [slots.get(n, -1) + 1 for n in sorted(self.persons)]

    def left(self):
        unserved = sorted(set(self.persons) - set(self.slots()))
        return [len(unserved)] + unserved

    def slot(self, i):
        return [self.slots().get(i, -33)]

    def at(self, s):
        there = sorted(n for n, place in self.slots().items() if place == s)
        return [-22] if s > 39 else [len(there)] + there

    def can(self):
        return [1 if self.all_can(self.times()) else 0]

    def fewest(self):
        return [min(m for m in range(11) if most_served(self.times(), m) == len(self.persons))]

    def held(self, a, b):
        return sum(1 for r, d, v in self.persons.values() if a <= r and d <= b)

    def tight(self):
        found = []
        for opener, (r, _, _) in self.persons.items():
            for closer, (_, d, _) in self.persons.items():
                if r < d:
                    needs = -(-self.held(r, d) // (d - r))
                    found.append((-needs, opener, closer, r, d))
        if not found:
            return [-6]
        best = min(found)
        return [-best[0], best[3], best[4], self.held(best[3], best[4])]

    def load(self, a, b):
        return [-22] if b < a or b > 40 else [self.held(a, b)]

    def worthy(self):
        taken = []
        for n in sorted(self.persons, key=lambda n: (100 - self.persons[n][2], n)):
            if self.all_can(self.times(taken + [n])):
                taken.append(n)
        return [sum(self.persons[n][2] for n in taken)] + sorted(taken)

    def worth(self, many, *numbers):
        if many != len(set(numbers) & set(self.persons)):
            return [-22]
        return [sum(self.persons[n][2] for n in numbers)] if self.all_can(self.times(numbers)) else [-33]

    def fits(self, i, slot):
        return self.all_can({**self.times(), i: (slot, slot + 1)})

    def earliest(self, i):
        r, d, v = self.persons[i]
        return [next((slot for slot in range(r, d) if self.fits(i, slot)), -33)]

    def latest(self, i):
        r, d, v = self.persons[i]
        return [next((slot for slot in range(d - 1, r - 1, -1) if self.fits(i, slot)), -33)]

    def could(self, r, d):
        return [-22] if wrong_time(r, d) else [1 if self.all_can({**self.times(), 10: (r, d)}) else 0]

    def free(self):
        return [40 * self.many - most_served(self.times(), self.many)]

    def look(self, i):
        return list(self.persons[i])

    def state(self):
        return [len(self.persons), self.many]


def some_call(dice, kind, many, stretch, begin):
    """A call of this kind, mostly of what isn't refused, in a short stretch so that often not all can be served."""
    def person():
        return dice.choice([dice.randrange(0, many + 1)] * 8 + [dice.randrange(0, 12), BIGGEST])

    def time():
        r = dice.randrange(0, stretch)
        usual = (begin + r, begin + dice.randrange(r + 1, stretch + 1))
        odd = (dice.choice([0, 1, 39, 40, 41, BIGGEST]), dice.choice([0, 1, 2, 39, 40, 41, BIGGEST]))
        return dice.choice([usual] * 7 + [odd])

    if kind in (0, 4):
        return (kind, dice.choice([0, 1, 1, 2, 2, 3, 4, 5, BIGGEST]))
    if kind == 1:
        return (kind, *time(), dice.choice([0, 1, 2, 2, 3, 50, 99, 100, 101, BIGGEST]))
    if kind in (2, 7, 15, 16, 19):
        return (kind, person())
    if kind == 3:
        return (kind, person(), *time())
    if kind == 8:
        return (kind, dice.choice([begin, begin + stretch - 1, 0, 39, 40, BIGGEST]))
    if kind in (12, 17):
        return (kind, *time())
    if kind == 14:
        known = dice.sample(range(many), dice.randrange(0, many + 1))
        persons = dice.choice([known, known, known, [person() for _ in range(dice.choice([1, 2, 5, 60]))]])
        return (kind, len(persons), *persons)
    return (kind,)


def some_line(dice):
    """Two hundred calls: a few ahead of the start, and a second start now and then."""
    stretch = dice.choice([1, 2, 3, 5, 8, 40])
    begin = dice.randrange(0, 41 - stretch)
    book, calls, wanted = SecondBook(), [], []
    kinds = [1] * 8 + [2, 3, 4] * 2 + list(range(5, 21)) * 2
    while len(calls) < 200:
        seldom = dice.randrange(0, 60) == 0 or (book.many is None and dice.randrange(0, 4) == 0)
        call = some_call(dice, 0 if seldom else dice.choice(kinds), len(book.persons), stretch, begin)
        calls.append(call)
        wanted.append(book.answer(call))
    return calls, wanted


class LongLines(unittest.TestCase):
    def test_all_calls_mixed(self):
        seen = set()
        for seed in range(60):
            calls, wanted = some_line(random.Random(seed))
            line = flat(*calls)
            before = list(line)
            given = answers(line)
            for call, got, right in zip(calls, split(given), wanted, strict=True):
                self.assertEqual(got, right, (seed, call))
                seen.add((call[0], got[0] if got[0] < 0 else 0))
            self.assertEqual(line, before)
            self.assertEqual(answers(line), given)
        self.check_seen(seen)

    def check_seen(self, seen):
        """Else the lines would be too tame to show anything."""
        refusals = {0: [-22], 1: [-22, -28], 2: [-2], 3: [-2, -22], 4: [-22], 7: [-2, -33], 8: [-22], 11: [-6],
                    12: [-22], 14: [-22, -33], 15: [-2, -33], 16: [-2, -33], 17: [-22], 19: [-2]}
        for kind in range(21):
            for answer in [0] + refusals.get(kind, []) + ([-11] if kind > 0 else []):
                self.assertIn((kind, answer), seen)


if __name__ == "__main__":
    unittest.main()
