"""Webs of pairs, arcs, lots and orders of people, and other names for them."""

from givesifgets.registry import MOST_PEOPLE, free_friends, ties_of
from givesifgets.values import (are_ascending_below, are_unlike_below, as_pair, is_ascending, is_below,
                                is_pair_below, is_tuple_of)


def _are_ascending_pairs(n, value):
    if not isinstance(value, tuple) or not all([is_pair_below(n, pair) for pair in value]):
        return False
    return is_ascending(value)


def is_web(value):
    """Whether any value is a web."""
    if not is_tuple_of(2, value) or not is_below(MOST_PEOPLE + 1, value[0]):
        return False
    return _are_ascending_pairs(value[0], value[1]) and all([u < v for u, v in value[1]])


def neighbours(web, person):
    """The people with whom a person of the web makes a pair."""
    return tuple(sorted([u + v - person for u, v in web[1] if person in (u, v)]))


def rows_of(web):
    """For each person of the web the list of those with whom he makes a pair."""
    rows = [[] for _ in range(web[0])]
    for u, v in web[1]:
        rows[u].append(v)
        rows[v].append(u)
    return rows


def arcs_of(registry):
    """How many people there are, whose friends may give to whom, and to whom each free friend may."""
    friends = registry[2]
    ties = ties_of(registry)
    arcs = sorted({(friends[friend][1], person) for friend, person in ties if friends[friend][1] is not None})
    reached = {friend: [] for friend in free_friends(registry)}
    for friend, person in ties:
        if friend in reached:
            reached[friend].append(person)
    return (len(registry[1]), tuple(arcs), tuple([tuple(reached[friend]) for friend in free_friends(registry)]))


def pair_web(registry):
    """The web of the pairs of people whose friends may give crosswise."""
    n, arcs, _ = arcs_of(registry)
    known = {arc: True for arc in arcs}
    return (n, tuple([(u, v) for u, v in arcs if u < v and (v, u) in known]))


def are_arcs(value):
    """Whether any value is what is told of some arcs."""
    if not is_tuple_of(3, value) or not is_below(MOST_PEOPLE + 1, value[0]):
        return False
    n, arcs, givers = value
    if not _are_ascending_pairs(n, arcs) or not all([u != v for u, v in arcs]):
        return False
    return isinstance(givers, tuple) and all([is_lot(n, lot) for lot in givers])


def is_lot(n, value):
    """Whether any value is a lot of n people."""
    return are_ascending_below(n, value)


def is_order(n, value):
    """Whether any value is an order of n people."""
    return are_unlike_below(n, value) and len(value) == n


def renamed_web(web, names):
    """The web in which person u is called names[u]."""
    return (web[0], tuple(sorted([as_pair(names[u], names[v]) for u, v in web[1]])))


def renamed_lot(lot, names):
    """The lot of what its people are called."""
    return tuple(sorted([names[person] for person in lot]))


def without(web, lot):
    """The web without the pairs that have somebody of the lot."""
    return (web[0], tuple([(u, v) for u, v in web[1] if u not in lot and v not in lot]))


def parts_left(web, lot):
    """The parts of what is left of the web when the people of the lot are gone, ascending."""
    rows = rows_of(without(web, lot))
    reached = [person in lot for person in range(web[0])]
    parts = []
    for person in range(web[0]):
        if not reached[person]:
            parts.append(_part_of(rows, reached, person))
    return parts


def _part_of(rows, reached, person):
    reached[person] = True
    part = []
    ahead = [person]
    while ahead:
        one = ahead.pop()
        part.append(one)
        for other in rows[one]:
            if not reached[other]:
                reached[other] = True
                ahead.append(other)
    return tuple(sorted(part))
