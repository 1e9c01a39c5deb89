"""Calls as tuples, the answers to a line of them as one list for each call, and how many any way can serve."""

from appointments.book import answers

BIGGEST = 4294967295


def start(m):
    return (0, m)


def ask(r, d, v=1):
    return (1, r, d, v)


def drop(i):
    return (2, i)


def move(i, r, d):
    return (3, i, r, d)


def windows(m):
    return (4, m)


PLAN = (5,)
LEFT = (6,)


def slot(i):
    return (7, i)


def at(s):
    return (8, s)


CAN = (9,)
FEWEST = (10,)
TIGHT = (11,)


def load(a, b):
    return (12, a, b)


WORTHY = (13,)


def worth(*persons):
    return (14, len(persons)) + persons


def earliest(i):
    return (15, i)


def latest(i):
    return (16, i)


def could(r, d):
    return (17, r, d)


FREE = (18,)


def look(i):
    return (19, i)


STATE = (20,)


def flat(*calls):
    return [number for call in calls for number in call]


def split(given):
    parts = []
    place = 0
    while place < len(given):
        behind = place + 1 + given[place]
        parts.append(given[place + 1:behind])
        place = behind
    return parts


def told(*calls):
    """The answer to each call of a line."""
    return split(answers(flat(*calls)))


def last(*calls):
    """The answer to the last call of a line."""
    return told(*calls)[-1]


def most_served(times, many_windows):
    """How many can be served in any way at all: places are found by making others give way."""
    holder = {}

    def find(person, tried):
        for place_slot in range(times[person][0], times[person][1]):
            for window in range(many_windows):
                place = (place_slot, window)
                if place in tried:
                    continue
                tried.add(place)
                if place not in holder or find(holder[place], tried):
                    holder[place] = person
                    return True
        return False

    return sum(1 for person in sorted(times) if find(person, set()))
