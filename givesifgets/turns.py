"""Turns of a plan: ways and rings on which its pairs and others stand by turns."""

from givesifgets.errors import InvalidQuestion
from givesifgets.plans import partner
from givesifgets.values import are_unlike_below, as_pair, is_tuple_of

LEAST_PEOPLE = {"way": 2, "ring": 4}


def steps_of(turn):
    """The pairs of each one and the next, of a ring of the last one and the first, too."""
    word, people = turn
    pairs = [as_pair(people[at - 1], people[at]) for at in range(1, len(people))]
    if word == "ring":
        pairs.append(as_pair(people[-1], people[0]))
    return pairs


def _is_formed(n, value):
    """Whether any value has the form of a turn of n people, and enough of them."""
    if not is_tuple_of(2, value) or not isinstance(value[0], str):
        return False
    word, people = value
    return word in LEAST_PEOPLE and are_unlike_below(n, people) and len(people) >= LEAST_PEOPLE[word]


def is_turn(web, plan, value):
    """Whether any value is a turn of the plan."""
    n, pairs = web
    if not _is_formed(n, value):
        return False
    word, people = value
    steps = steps_of(value)
    if not all([pair in pairs for pair in steps]):
        return False
    marks = [pair in plan for pair in steps]
    if not all([marks[at - 1] != marks[at] for at in range(1, len(marks))]):
        return False
    if word == "ring":
        return marks[0] != marks[-1]
    first_ends = marks[0] or partner(plan, people[0]) is None
    return first_ends and (marks[-1] or partner(plan, people[-1]) is None)


def gain(plan, turn):
    """How many pairs more a plan has when it is turned."""
    steps = steps_of(turn)
    return len(steps) - 2 * len([pair for pair in steps if pair in plan])


def turned_pairs(plan, turn):
    """The plan with the pairs of a turn that it does not have in the place of those that it has."""
    steps = steps_of(turn)
    kept = [pair for pair in plan if pair not in steps]
    return tuple(sorted(kept + [pair for pair in steps if pair not in plan]))


def turned(web, plan, turn):
    """The plan, turned by any value, which must be a turn of it."""
    if not is_turn(web, plan, turn):
        raise InvalidQuestion(2)
    return turned_pairs(plan, turn)


def is_growing(web, plan, value):
    """Whether any value is a turn by which the plan has one pair more."""
    return is_turn(web, plan, value) and gain(plan, value) == 1
