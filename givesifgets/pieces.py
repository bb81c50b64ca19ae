"""Pieces: rings of people who give in turns, and chains that begin with a free giver."""

from givesifgets.routes import Routes, refuse_many
from givesifgets.values import are_unlike_below, is_below, is_tuple_of


def _are_people_in_row(arcs, least, longest, value):
    """Whether any value is a tuple of so many unlike people, each one and the next being an arc."""
    n, pairs, _ = arcs
    if not are_unlike_below(n, value) or not least <= len(value) <= longest:
        return False
    return all([(value[at - 1], value[at]) in pairs for at in range(1, len(value))])


def is_piece(arcs, limits, value):
    """Whether any value is a piece of the arcs within the limits."""
    longest_ring, longest_chain = limits
    if is_tuple_of(2, value):
        word, people = value
        if word != "ring" or not _are_people_in_row(arcs, 2, longest_ring, people):
            return False
        return people[0] == min(people) and (people[-1], people[0]) in arcs[1]
    if not is_tuple_of(3, value):
        return False
    word, giver, people = value
    if word != "chain" or not is_below(len(arcs[2]), giver):
        return False
    return _are_people_in_row(arcs, 1, longest_chain, people) and people[0] in arcs[2][giver]


def pieces_of(arcs, limits):
    """All pieces; Refused(n) above 14 people."""
    refuse_many(arcs)
    routes = Routes(arcs, ())
    longest_ring, longest_chain = limits
    chains = routes.all_chains(longest_chain)
    found = [("ring", people) for people in routes.rings(longest_ring)]
    for giver, lot in enumerate(routes.firsts):
        found.extend([("chain", giver, people) for first in lot for people in chains[first]])
    return tuple(sorted(found))


def sources_of(arcs, person):
    """From whom a person may get: friends by their owners, then givers, then none."""
    _, pairs, givers = arcs
    owners = [("friend", u) for u, v in pairs if v == person]
    return tuple(owners + [("giver", giver) for giver, lot in enumerate(givers) if person in lot] + [("none",)])


def people_of(piece):
    """The people of a piece, in its order."""
    return piece[-1]


def source_of(piece, person):
    """The source from which a person gets by a piece, None if he is not in it."""
    people = people_of(piece)
    if person not in people:
        return None
    at = people.index(person)
    if at == 0 and piece[0] == "chain":
        return ("giver", piece[1])
    return ("friend", people[at - 1])
