"""Persons and their times: whom the plan serves in which slot, whom all can be served with, what the spans need."""

SLOTS = 40


class Person:
    """One who can come from the slot first on, up to end (that not with it)."""

    def __init__(self, first, end, counts):
        self.first = first
        self.end = end
        self.counts = counts


def can_come(person, slot):
    return person.first <= slot and slot < person.end


def next_served(persons, served, slot, windows):
    """The numbers of those whom the plan serves in this slot, after those served before it."""
    waiting = [number for number in persons if number not in served and can_come(persons[number], slot)]
    by_end = sorted(waiting, key=lambda number: (persons[number].end, number))
    return by_end[:windows]


def plan_of(persons, windows):
    """The plan: the slot of each person that is served, by the person's number."""
    served = {}
    for slot in range(SLOTS):
        for number in next_served(persons, served, slot, windows):
            served[number] = slot
    return served


def all_served(persons, windows):
    return len(plan_of(persons, windows)) == len(persons)


def all_served_with(persons, windows, number, person):
    """Whether all could be served if this person stood under this number, as one more or in place of who has it."""
    changed = dict(persons)
    changed[number] = person
    return all_served(changed, windows)


def fitting_slots(persons, windows, number):
    """The slots of one person's time, rising, in which it can be served so that all can be."""
    person = persons[number]
    return [slot for slot in range(person.first, person.end)
            if all_served_with(persons, windows, number, Person(slot, slot + 1, person.counts))]


def taken_by_counts(persons, windows):
    """Those who are taken by what they count, by their numbers."""
    taken = {}
    for number in sorted(persons, key=lambda asker: (-persons[asker].counts, asker)):
        if all_served_with(taken, windows, number, persons[number]):
            taken[number] = persons[number]
    return taken


def counted(persons):
    """What they count together."""
    return sum([persons[number].counts for number in persons])


def spans_of(persons):
    """All spans (first slot, end): by the person with whom they begin, then by the one with whom they end."""
    spans = []
    for opener in sorted(persons):
        for closer in sorted(persons):
            if persons[opener].first < persons[closer].end:
                spans.append((persons[opener].first, persons[closer].end))
    return spans


def held_by(persons, first, end):
    """How many can come only from first on, up to end."""
    return len([number for number in persons if persons[number].first >= first and persons[number].end <= end])


def span_needs(persons, span):
    length = span[1] - span[0]
    return (held_by(persons, span[0], span[1]) + length - 1) // length


def windows_needed(persons):
    """How many windows the span needs that needs most; 0 where there is no span, as nobody has asked."""
    return max([span_needs(persons, span) for span in spans_of(persons)], default=0)


def tightest_span(persons):
    """The span that needs most; somebody must have asked."""
    # Of spans that need alike max gives back the one that stands first, and they stand in the order that is asked for.
    return max(spans_of(persons), key=lambda span: span_needs(persons, span))
