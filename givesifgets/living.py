"""Lives: a world with its order, the pairs that are promised, and the plan for all others."""

from givesifgets.kept import kept_lot, kept_plan
from givesifgets.plans import is_plan, served
from givesifgets.values import is_tuple_of
from givesifgets.webs import is_order, without
from givesifgets.worlds import is_world, web_left


def begun(world, order):
    """Some life with a world and an order, nothing being promised."""
    return (world, order, (), kept_plan(web_left(world), order))


def web_beside(world, promised):
    """The web that is left of a world, without all pairs of promised people."""
    return without(web_left(world), served(promised))


def is_life(value):
    """Whether any value is a life."""
    if not is_tuple_of(4, value) or not is_world(value[0]):
        return False
    world, order, promised, plan = value
    if not is_order(len(world[1][1]), order) or not is_plan(web_left(world), promised):
        return False
    rest = web_beside(world, promised)
    return is_plan(rest, plan) and served(plan) == kept_lot(rest, order)


def open_web(life):
    """The web that is left, without all pairs of promised people."""
    world, _, promised, _ = life
    return web_beside(world, promised)


def served_now(life):
    """The lot of all people in promised or planned pairs."""
    _, _, promised, plan = life
    return served(promised + plan)
