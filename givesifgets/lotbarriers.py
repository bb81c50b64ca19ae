"""Barriers of lots: papers that show whether a lot can be served, and how much of it."""

from givesifgets.barriers import odd_parts
from givesifgets.plans import is_plan, serves
from givesifgets.search import plan_of
from givesifgets.servable import keep_along
from givesifgets.values import is_tuple_of
from givesifgets.webs import is_lot


def closed_parts(web, lot, taken):
    """The odd parts, one lot taken away, all of whose people are in the other lot."""
    return tuple([part for part in odd_parts(web, taken) if all([person in lot for person in part])])


def bars(web, lot, taken):
    """Whether more closed parts of a lot than the taken people stand in the way of serving it."""
    return len(closed_parts(web, lot, taken)) > len(taken)


def lot_paper(web, lot):
    """A plan that serves a lot, or a lot that shows that none does."""
    mates, barriers = keep_along(web, lot)
    if barriers:
        # who bars some of the lot bars all of it
        return ("barred", barriers[0][1])
    return ("served", plan_of(mates))


def is_lot_paper(web, lot, value):
    """Whether any value is such a pair for the lot."""
    if not is_tuple_of(2, value):
        return False
    word, shown = value
    if word == "served":
        return is_plan(web, shown) and serves(shown, lot)
    return word == "barred" and is_lot(web[0], shown) and bars(web, lot, shown)
