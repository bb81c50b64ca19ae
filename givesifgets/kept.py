"""The kept lot: whoever is servable together with all that are kept ahead of him in the order of needs."""

from givesifgets.search import plan_of
from givesifgets.servable import keep_along


def kept_lot(web, order):
    """The lot of all kept ones."""
    mates, _ = keep_along(web, order)
    return tuple([person for person, mate in enumerate(mates) if mate is not None])


def kept_plan(web, order):
    """Some plan that serves just the kept ones."""
    mates, _ = keep_along(web, order)
    return plan_of(mates)


def places(order, lot):
    """The places at which the people of the lot stand in the order."""
    return tuple([at for at, person in enumerate(order) if person in lot])


def is_earlier(order, one, other):
    """Whether the first in the order of those who are in just one of two lots is in the first one."""
    for person in order:
        if (person in one) != (person in other):
            return person in one
    return False
