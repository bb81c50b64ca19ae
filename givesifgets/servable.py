"""Servable lots: those whose people some plan serves, and how they give way to one another."""

from givesifgets.errors import InvalidQuestion
from givesifgets.search import Forest, plan_of, turn_along
from givesifgets.webs import is_lot, rows_of


def keep_along(web, people):
    """Go through some people, and keep each one who is servable with all that are kept ahead of him.

    Told are the partners by some plan that serves all kept ones, and for each
    other one a pair (person, taken): a lot that bars him and those ahead.
    """
    rows = rows_of(web)
    mates = [None for _ in rows]
    wanted = [False for _ in rows]
    barriers = []
    for person in people:
        wanted[person] = True
        if mates[person] is None:
            forest = Forest(rows, mates, [person], wanted)
            way = forest.turnable()
            if way is not None:
                turn_along(mates, way)
            else:
                wanted[person] = False
                barriers.append((person, forest.reached_oddly()))
    return (mates, barriers)


def serving_plan(web, lot):
    """None, or some plan that serves all people of the lot."""
    mates, barriers = keep_along(web, lot)
    return None if barriers else plan_of(mates)


def is_servable(web, lot):
    """Whether some plan serves all people of the lot."""
    return is_lot(web[0], lot) and serving_plan(web, lot) is not None


def taken_in(web, one, other):
    """Some person whom a second, greater lot has more, and some plan that serves him and all of the first one."""
    if not is_servable(web, one):
        raise InvalidQuestion(1)
    if not is_servable(web, other) or len(other) <= len(one):
        raise InvalidQuestion(2)
    # kept along the first lot, then the second one, somebody new is kept: the plan serves him, too
    more = [person for person in other if person not in one]
    mates, barriers = keep_along(web, list(one) + more)
    barred = [person for person, _ in barriers]
    return ([person for person in more if person not in barred][0], plan_of(mates))
