"""What falls out: pairs whose tests failed and people who are gone, and how a plan is repaired."""

from givesifgets.errors import InvalidQuestion
from givesifgets.hiding import less
from givesifgets.plans import is_plan, unserved
from givesifgets.search import largest_plan, search_from
from givesifgets.turns import turned_pairs
from givesifgets.values import is_tuple_of
from givesifgets.webs import is_lot, is_web, without


def are_falls(web, value):
    """Whether any value is falls of the web."""
    if not is_tuple_of(2, value) or not is_web((web[0], value[0])) or not is_lot(web[0], value[1]):
        return False
    return len(set(value[0]) - set(web[1])) == 0


def left_web(web, falls):
    """The web without the pairs, and without all pairs of the people, that fell out."""
    pairs, people = falls
    return without(less(web, pairs), people)


def left_plan(plan, falls):
    """The plan without the pairs, and without the pairs of the people, that fell out."""
    pairs, people = falls
    return tuple([(u, v) for u, v in plan if (u, v) not in pairs and u not in people and v not in people])


def repaired(web, plan, falls):
    """Some ways by which what is left of a largest plan grows, one after another, and the plan they lead to."""
    if not is_plan(web, plan) or len(plan) < len(largest_plan(web)):
        raise InvalidQuestion(1)
    if not are_falls(web, falls):
        raise InvalidQuestion(2)
    left, later = left_web(web, falls), left_plan(plan, falls)
    ways = []
    people, _ = search_from(left, later, unserved(left, later))
    while people is not None:
        ways.append(("way", tuple(people)))
        later = turned_pairs(later, ways[-1])
        people, _ = search_from(left, later, unserved(left, later))
    return (tuple(ways), later)
