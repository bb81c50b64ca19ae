"""Strands: what comes of two plans that are laid over one another."""

from givesifgets.errors import InvalidQuestion
from givesifgets.plans import served
from givesifgets.turns import gain, turned_pairs
from givesifgets.values import is_integer


def _rows_between(one, other):
    """For each person of the pairs that just one of the plans has, ascending, the next ones by these."""
    rows = {}
    for u, v in sorted(set(one) ^ set(other)):
        rows.setdefault(u, []).append(v)
        rows.setdefault(v, []).append(u)
    return {person: rows[person] for person in sorted(rows)}


def _walk(rows, first):
    """The people from one on, each time to the lesser one of those who are not on the walk yet."""
    people = [first]
    ahead = list(rows[first])
    while ahead:
        people.append(min(ahead))
        ahead = [person for person in rows[people[-1]] if person not in people]
    return tuple(people)


def strands(one, other):
    """The turns that are made of the pairs that just one of two plans has."""
    rows = _rows_between(one, other)
    ends_first = [person for person in rows if len(rows[person]) == 1] + list(rows)
    walked = {}
    turns = []
    # who is still left behind all ends of ways is on a ring
    for person in ends_first:
        if person not in walked:
            people = _walk(rows, person)
            walked.update({thing: True for thing in people})
            turns.append(("way" if len(rows[person]) == 1 else "ring", people))
    return tuple(sorted(turns))


def strand_at(one, other, person):
    """The strand that has a person, None if none has."""
    for strand in strands(one, other):
        if person in strand[1]:
            return strand
    return None


def growing_ways(one, other):
    """The strands by which the first plan has one pair more."""
    return tuple([strand for strand in strands(one, other) if gain(one, strand) == 1])


def ends(one, other):
    """The ends (first, last) of all strands that are ways."""
    ways = [people for word, people in strands(one, other) if word == "way"]
    return tuple(sorted([(people[0], people[-1]) for people in ways]))


def exchanged(one, other, person):
    """The first plan turned at a person, any value, whom just the other one serves, and who is given up for it."""
    helped = served(one)
    if not is_integer(person) or person in helped or person not in served(other):
        raise InvalidQuestion(2)
    strand = strand_at(one, other, person)
    people = strand[1]
    last = people[0] if people[-1] == person else people[-1]
    return (turned_pairs(one, strand), last if last in helped else None)
