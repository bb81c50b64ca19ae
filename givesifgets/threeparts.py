"""The three parts of a web: who may be left out, who is next to these, and all others."""

from givesifgets.plans import unserved
from givesifgets.search import even_way, largest_plan, search_from
from givesifgets.turns import turned_pairs
from givesifgets.webs import parts_left


def three_parts(web):
    """The lots (free, next, firm)."""
    plan = largest_plan(web)
    # nothing grows from a largest plan, so this search ends with all who can be left out
    _, forest = search_from(web, plan, unserved(web, plan))
    free, near = forest.reached_evenly(), forest.reached_oddly()
    return (free, near, tuple([person for person in range(web[0]) if person not in free + near]))


def plan_without(web, person):
    """None, or some largest plan that does not serve the person."""
    plan = largest_plan(web)
    way = even_way(web, plan, person)
    if way is None:
        return None
    return turned_pairs(plan, ("way", way))


def paired_rest(web, person):
    """Some plan that serves all of a free person's part but him."""
    parts = parts_left(web, three_parts(web)[1])
    rest = [part for part in parts if person in part][0]
    # a largest plan without him serves all others of his part among themselves
    return tuple([(u, v) for u, v in plan_without(web, person) if u in rest and v in rest])
