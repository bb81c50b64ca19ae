"""Shares of pieces and prices that meet: by them no pack weighs more."""

from givesifgets.packs import givers_of
from givesifgets.pieces import is_piece, people_of
from givesifgets.piecesets import PieceSets
from givesifgets.routes import refuse_many
from givesifgets.sharing import Sharing
from givesifgets.values import is_ascending, is_integer, is_number, is_tuple_of


def shares_of(arcs, limits, weights):
    """Some (d, shares, people, givers) that meet; Refused(n) above 14 people."""
    refuse_many(arcs)
    n, _, givers = arcs
    sets = PieceSets(arcs, limits, ())
    sharing = Sharing(n + len(givers))
    sharing.settle(list(weights) + [0 for _ in givers], sets)
    shares = sorted([(sets.piece_at(column), share) for column, share in sharing.parts()])
    return (sharing.scale, tuple(shares), tuple(sharing.prices[:n]), tuple(sharing.prices[n:]))


def is_scale(value):
    """Whether any value is an integer from 1 on."""
    return is_integer(value) and value > 0


def are_numbers(size, value):
    """Whether any value is a tuple of so many numbers."""
    return is_tuple_of(size, value) and all([is_number(thing) for thing in value])


def pay_for_all(sets, weights, scale, people, givers):
    """Whether the prices of each piece, and of its giver, come at least to the scale times its weight."""
    over = [scale * weight - price for weight, price in zip(weights, people)]
    return sets.dearest(over + [-price for price in givers])[1] is None


def _is_share(arcs, limits, value):
    return is_tuple_of(2, value) and is_piece(arcs, limits, value[0]) and is_scale(value[1])


def _are_shared(arcs, limits, scale, value):
    """Whether any value is a tuple of shares of unlike pieces, none of a person or giver above the scale."""
    if not isinstance(value, tuple) or not all([_is_share(arcs, limits, thing) for thing in value]):
        return False
    if not is_ascending([piece for piece, _ in value]):
        return False
    taken = {}
    for piece, share in value:
        # a giver is told apart from the person with his number
        users = list(people_of(piece)) + [("giver", giver) for giver in givers_of((piece,))]
        for user in users:
            taken[user] = taken.get(user, 0) + share
    return all([many <= scale for many in list(taken.values())])


def are_shares(arcs, limits, weights, value):
    """Whether any value is shares and prices that meet; Refused(n) above 14 people."""
    refuse_many(arcs)
    n, _, lots = arcs
    if not is_tuple_of(4, value) or not is_scale(value[0]):
        return False
    scale, shares, people, givers = value
    if not are_numbers(n, people) or not are_numbers(len(lots), givers):
        return False
    if not _are_shared(arcs, limits, scale, shares):
        return False
    weighed = sum([share * sum([weights[person] for person in people_of(piece)]) for piece, share in shares])
    if weighed != sum(people) + sum(givers):
        return False
    return pay_for_all(PieceSets(arcs, limits, ()), weights, scale, people, givers)
