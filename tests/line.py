"""Calls as tuples, and the answers to a line of them as one list for each call."""

from appointments.book import answers

BIGGEST = 4294967295


def start(m):
    return (0, m)


def ask(r, d, v=1):
    return (1, r, d, v)


def drop(i):
    return (2, i)


def move(i, r, d):
    return (3, i, r, d)


def windows(m):
    return (4, m)


PLAN = (5,)
LEFT = (6,)


def slot(i):
    return (7, i)


def at(s):
    return (8, s)


CAN = (9,)
FEWEST = (10,)


def flat(*calls):
    return [number for call in calls for number in call]


def split(given):
    parts = []
    place = 0
    while place < len(given):
        behind = place + 1 + given[place]
        parts.append(given[place + 1:behind])
        place = behind
    return parts


def told(*calls):
    """The answer to each call of a line."""
    return split(answers(flat(*calls)))


def last(*calls):
    """The answer to the last call of a line."""
    return told(*calls)[-1]
