"""Trading by people's own wishes: deals, rounds of rings, and the deal that these make."""

from givesifgets.values import are_unlike_below


def is_deal(wishes, value):
    """Whether any value is a deal: for each person somebody of its row, nobody twice."""
    n = len(wishes)
    if not are_unlike_below(n, value) or len(value) != n:
        return False
    return all([share in row for share, row in zip(value, wishes)])


def prefers(wishes, person, one, other):
    """Whether the first one stands in the person's row, and the other one behind it or not in the row."""
    row = wishes[person]
    return one in row and other not in row[:row.index(one) + 1]


def _rings_of(points):
    """The rings of people, each of whom points at the one ahead: {person: at whom it points}."""
    rings = []
    walks = {}
    for first in points:
        row = []
        person = first
        while person not in walks:
            walks[person] = first
            row.append(person)
            person = points[person]
        # the walk has come back to somebody of its own
        if walks[person] == first:
            rings.append(_from_least(row[row.index(person):][::-1]))
    return tuple(sorted(rings))


def _from_least(ring):
    at = ring.index(min(ring))
    return tuple(ring[at:] + ring[:at])


def deal_rings(deal):
    """The rings of two or more people in which friends give by a deal, each one's to the next."""
    return tuple([ring for ring in _rings_of(dict(enumerate(deal))) if len(ring) > 1])


def rounds(wishes):
    """For each round of the trade the rings that go in it."""
    left = {person: True for person in range(len(wishes))}
    told = []
    while left:
        points = {person: [other for other in wishes[person] if other in left][0] for person in left}
        told.append(_rings_of(points))
        gone = {person: True for ring in told[-1] for person in ring}
        left = {person: True for person in left if person not in gone}
    return tuple(told)


def trade(wishes):
    """The deal in which each person has the share at which it pointed when it went."""
    shares = {}
    for rings in rounds(wishes):
        for ring in rings:
            # each one points at the one ahead, the first one at the last
            for at, person in enumerate(ring):
                shares[person] = ring[at - 1]
    return tuple([shares[person] for person in range(len(wishes))])
