"""Papers that show of each one who is not kept why he is not."""

from givesifgets.kept import kept_lot
from givesifgets.lotbarriers import bars
from givesifgets.plans import is_plan, served, unserved
from givesifgets.search import plan_of
from givesifgets.servable import keep_along
from givesifgets.values import is_below, is_tuple_of
from givesifgets.webs import is_lot


def kept_paper(web, order):
    """Some plan that serves just the kept ones, and for each other one a barrier."""
    mates, barriers = keep_along(web, order)
    return (plan_of(mates), tuple(sorted(barriers)))


def with_those_ahead(order, lot, person):
    """The lot of a person and all of a lot who stand ahead of him in the order."""
    ahead = order[:order.index(person)]
    return tuple(sorted([other for other in ahead if other in lot] + [person]))


def _is_reason(web, order, helped, value):
    """Whether any value is a pair of a person of the web and a lot that bars him and the helped ones ahead."""
    if not is_tuple_of(2, value) or not is_below(web[0], value[0]) or not is_lot(web[0], value[1]):
        return False
    person, taken = value
    return bars(web, with_those_ahead(order, helped, person), taken)


def is_kept_paper(web, order, value):
    """Whether any value is such a pair, the kept ones being those whom its plan serves."""
    if not is_tuple_of(2, value) or not is_plan(web, value[0]) or not isinstance(value[1], tuple):
        return False
    plan, reasons = value
    helped = served(plan)
    if not all([_is_reason(web, order, helped, thing) for thing in reasons]):
        return False
    return tuple([person for person, _ in reasons]) == unserved(web, plan)


def beginnings(web, order):
    """For each number up to that of the people, how many of the first so many of the order are kept."""
    lot = kept_lot(web, order)
    numbers = [0]
    for person in order:
        numbers.append(numbers[-1] + (1 if person in lot else 0))
    return tuple(numbers)
