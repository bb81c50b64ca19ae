"""Barriers: lots that show, by one count, that no plan is larger."""

from givesifgets.plans import is_plan, unserved
from givesifgets.search import largest_plan
from givesifgets.threeparts import three_parts
from givesifgets.values import is_tuple_of
from givesifgets.webs import is_lot, parts_left


def odd_parts(web, lot):
    """The parts with an odd number of people of what is left of the web without the lot."""
    return tuple([part for part in parts_left(web, lot) if len(part) % 2 == 1])


def spare_number(web, lot):
    """How many more odd parts there are than people of the lot."""
    return len(odd_parts(web, lot)) - len(lot)


def best_paper(web):
    """Some largest plan, and a lot that shows that it is one."""
    return (largest_plan(web), three_parts(web)[1])


def is_best_paper(web, value):
    """Whether any value is a plan of the web and a lot that shows that it is a largest one."""
    if not is_tuple_of(2, value) or not is_plan(web, value[0]) or not is_lot(web[0], value[1]):
        return False
    return len(unserved(web, value[0])) == spare_number(web, value[1])
