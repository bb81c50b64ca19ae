"""Lots that gain over a deal by trading among themselves."""

from givesifgets.trading import prefers, rounds, trade
from givesifgets.values import are_unlike_below, is_tuple_of
from givesifgets.webs import is_lot


def is_gaining(wishes, deal, value):
    """Whether any value is a pair of a lot and its shares that gains over the deal."""
    if not is_tuple_of(2, value) or not is_lot(len(wishes), value[0]):
        return False
    lot, shares = value
    if not are_unlike_below(len(wishes), shares) or len(shares) != len(lot):
        return False
    if not all([share in lot and share in wishes[person] for person, share in zip(lot, shares)]):
        return False
    if any([prefers(wishes, person, deal[person], share) for person, share in zip(lot, shares)]):
        return False
    return any([prefers(wishes, person, share, deal[person]) for person, share in zip(lot, shares)])


def gaining(wishes, deal):
    """None, or some pair of a lot and its shares that gains over the deal."""
    best = trade(wishes)
    # over every deal but this one some ring of the rounds gains
    for ring in [ring for rings in rounds(wishes) for ring in rings]:
        lot = tuple(sorted(ring))
        pair = (lot, tuple([best[person] for person in lot]))
        if is_gaining(wishes, deal, pair):
            return pair
    return None
