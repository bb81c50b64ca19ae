"""The most of a lot that can be served, and bases: servable lots that are part of no greater one."""

from givesifgets.errors import InvalidQuestion
from givesifgets.lotbarriers import closed_parts
from givesifgets.plans import is_plan, served
from givesifgets.search import Forest, largest_plan, plan_of, search_from
from givesifgets.servable import is_servable, keep_along, serving_plan
from givesifgets.values import is_below, is_tuple_of
from givesifgets.webs import is_lot, rows_of


def most_of(web, lot):
    """The greatest number of people of a lot whom one plan serves."""
    _, barriers = keep_along(web, lot)
    return len(lot) - len(barriers)


def most_paper(web, lot):
    """Some plan that serves as many of a lot as any, and some lot that shows it."""
    mates, barriers = keep_along(web, lot)
    wanted = [person in lot for person in range(web[0])]
    forest = Forest(rows_of(web), mates, [person for person, _ in barriers], wanted)
    # nobody more of the lot can be served, so this search ends with all whom it reaches
    forest.turnable()
    return (plan_of(mates), forest.reached_oddly())


def is_most_paper(web, lot, value):
    """Whether any value is such a pair for the lot."""
    if not is_tuple_of(2, value) or not is_plan(web, value[0]) or not is_lot(web[0], value[1]):
        return False
    plan, taken = value
    helped = served(plan)
    left_out = [person for person in lot if person not in helped]
    return len(left_out) == len(closed_parts(web, lot, taken)) - len(taken)


def is_base(web, lot):
    """Whether any value is a servable lot that is part of no greater one."""
    # all greatest servable lots have equally many people
    return is_servable(web, lot) and len(lot) == 2 * len(largest_plan(web))


def rivals(web, base, person):
    """The lot of those of a base in whose place a person, who is not in it, may come."""
    if not is_base(web, base):
        raise InvalidQuestion(1)
    if not is_below(web[0], person) or person in base:
        raise InvalidQuestion(2)
    # the plan is a largest one: so the search ends with all whom it can give up for the person
    _, forest = search_from(web, serving_plan(web, base), [person])
    return tuple([other for other in forest.reached_evenly() if other != person])
