"""The calls of one line, read one behind another and answered in turn on one new book."""

from appointments.slots import (SLOTS, Person, all_served, all_served_with, counted, fitting_slots, held_by, plan_of,
                                span_needs, taken_by_counts, tightest_span, windows_needed)

NO_SUCH_PERSON = -2
NOBODY = -6
NOT_STARTED = -11
NOT_AS_TOLD = -22
NO_ROOM = -28
NOT_SERVED = -33

MOST_WINDOWS = 4
MOST_PERSONS = 10
MOST_COUNTS = 100

START = 0
WORTH = 14

# How many whole numbers stand behind each call's own number; of worth only the one that tells its row's length.
SIZES = (1, 3, 1, 3, 1, 0, 0, 1, 1, 0, 0, 0, 2, 0, 1, 1, 1, 2, 0, 1, 0)


class Book:
    """What one line's calls work on; no windows means that it isn't started."""

    def __init__(self):
        self.windows = 0
        self.persons = {}


def windows_fit(windows):
    return 1 <= windows and windows <= MOST_WINDOWS


def time_fits(first, end):
    return first < end and end <= SLOTS


def least_free_number(persons):
    number = 0
    while number in persons:
        number += 1
    return number


def book_plan(book):
    return plan_of(book.persons, book.windows)


def answer_start(book, told):
    if not windows_fit(told[0]):
        return [NOT_AS_TOLD]
    book.windows = told[0]
    book.persons = {}
    return [0]


def answer_ask(book, told):
    if not time_fits(told[0], told[1]) or told[2] > MOST_COUNTS:
        return [NOT_AS_TOLD]
    if len(book.persons) >= MOST_PERSONS:
        return [NO_ROOM]
    number = least_free_number(book.persons)
    book.persons[number] = Person(told[0], told[1], told[2])
    return [number]


def answer_drop(book, told):
    if told[0] not in book.persons:
        return [NO_SUCH_PERSON]
    person = book.persons.pop(told[0])
    return [person.counts]


def answer_move(book, told):
    if told[0] not in book.persons:
        return [NO_SUCH_PERSON]
    if not time_fits(told[1], told[2]):
        return [NOT_AS_TOLD]
    before = book.persons[told[0]]
    book.persons[told[0]] = Person(told[1], told[2], before.counts)
    return [before.first, before.end]


def answer_windows(book, told):
    if not windows_fit(told[0]):
        return [NOT_AS_TOLD]
    before = book.windows
    book.windows = told[0]
    return [before]


def place_told(served, number):
    """One more than the slot, so that 0 is left to say that the person isn't served."""
    if number in served:
        return served[number] + 1
    return 0


def answer_plan(book, told):
    served = book_plan(book)
    return [len(served)] + [place_told(served, number) for number in sorted(book.persons)]


def answer_left(book, told):
    served = book_plan(book)
    left = [number for number in sorted(book.persons) if number not in served]
    return [len(left)] + left


def answer_slot(book, told):
    if told[0] not in book.persons:
        return [NO_SUCH_PERSON]
    served = book_plan(book)
    if told[0] not in served:
        return [NOT_SERVED]
    return [served[told[0]]]


def answer_at(book, told):
    if told[0] >= SLOTS:
        return [NOT_AS_TOLD]
    served = book_plan(book)
    there = [number for number in sorted(served) if served[number] == told[0]]
    return [len(there)] + there


def answer_can(book, told):
    return [1 if all_served(book.persons, book.windows) else 0]


def answer_fewest(book, told):
    return [windows_needed(book.persons)]


def answer_tight(book, told):
    if len(book.persons) == 0:
        return [NOBODY]
    span = tightest_span(book.persons)
    return [span_needs(book.persons, span), span[0], span[1], held_by(book.persons, span[0], span[1])]


def answer_load(book, told):
    if told[1] < told[0] or told[1] > SLOTS:
        return [NOT_AS_TOLD]
    return [held_by(book.persons, told[0], told[1])]


def answer_worthy(book, told):
    taken = taken_by_counts(book.persons, book.windows)
    return [counted(taken)] + sorted(taken)


def answer_worth(book, told):
    numbers = told[1:]
    picked = dict([(number, book.persons[number]) for number in numbers if number in book.persons])
    # Fewer than were told are picked just if one hasn't asked or is told twice.
    if len(picked) < len(numbers):
        return [NOT_AS_TOLD]
    if not all_served(picked, book.windows):
        return [NOT_SERVED]
    return [counted(picked)]


def answer_earliest(book, told):
    if told[0] not in book.persons:
        return [NO_SUCH_PERSON]
    fitting = fitting_slots(book.persons, book.windows, told[0])
    return [min(fitting, default=NOT_SERVED)]


def answer_latest(book, told):
    if told[0] not in book.persons:
        return [NO_SUCH_PERSON]
    fitting = fitting_slots(book.persons, book.windows, told[0])
    return [max(fitting, default=NOT_SERVED)]


def answer_could(book, told):
    if not time_fits(told[0], told[1]):
        return [NOT_AS_TOLD]
    number = least_free_number(book.persons)
    one_more = Person(told[0], told[1], 0)
    return [1 if all_served_with(book.persons, book.windows, number, one_more) else 0]


def answer_free(book, told):
    return [SLOTS * book.windows - len(book_plan(book))]


def answer_look(book, told):
    if told[0] not in book.persons:
        return [NO_SUCH_PERSON]
    person = book.persons[told[0]]
    return [person.first, person.end, person.counts]


def answer_state(book, told):
    return [len(book.persons), book.windows]


ANSWERED_BY = {
    0: answer_start,
    1: answer_ask,
    2: answer_drop,
    3: answer_move,
    4: answer_windows,
    5: answer_plan,
    6: answer_left,
    7: answer_slot,
    8: answer_at,
    9: answer_can,
    10: answer_fewest,
    11: answer_tight,
    12: answer_load,
    13: answer_worthy,
    14: answer_worth,
    15: answer_earliest,
    16: answer_latest,
    17: answer_could,
    18: answer_free,
    19: answer_look,
    20: answer_state,
}


def answer_one(book, kind, told):
    if kind != START and book.windows == 0:
        return [NOT_STARTED]
    return ANSWERED_BY[kind](book, told)


def size_at(calls, place):
    """How many numbers the call at this place has behind its own."""
    kind = calls[place]
    if kind == WORTH:
        return SIZES[kind] + calls[place + 1]
    return SIZES[kind]


def answers(calls):
    """The answers to all calls in order, each with how many numbers it has ahead of it."""
    book = Book()
    given = []
    place = 0
    while place < len(calls):
        behind = place + 1 + size_at(calls, place)
        answer = answer_one(book, calls[place], calls[place + 1:behind])
        given.append(len(answer))
        given.extend(answer)
        place = behind
    return given
