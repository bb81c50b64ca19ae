"""Packs: pieces of which no two have a person or a giver in common, and what they weigh."""

from givesifgets.pieces import is_piece, people_of
from givesifgets.values import is_ascending


def givers_of(pieces):
    """The givers of some pieces, in their order."""
    return [piece[1] for piece in pieces if piece[0] == "chain"]


def _are_apart(pieces):
    people = [person for piece in pieces for person in people_of(piece)]
    givers = givers_of(pieces)
    return len(set(people)) == len(people) and len(set(givers)) == len(givers)


def is_pack(arcs, limits, value):
    """Whether any value is a pack of pieces of the arcs within the limits."""
    if not isinstance(value, tuple) or not all([is_piece(arcs, limits, thing) for thing in value]):
        return False
    return is_ascending(value) and _are_apart(value)


def served_by(pack):
    """The lot of all people of a pack."""
    return tuple(sorted([person for piece in pack for person in people_of(piece)]))


def weight_of(weights, lot):
    """The sum of the weights of a lot."""
    return sum([weights[person] for person in lot])


def weights_by(worths, order):
    """The weights by which more worth weighs more, and of equal worths the earlier lot by the order."""
    n = len(order)
    return tuple([(worths[person] << n) + (1 << (n - 1 - order.index(person))) for person in range(n)])
