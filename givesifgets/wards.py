"""Wards: a lot of people who hide pairs and pair some of themselves by their own plan."""

from givesifgets.hiding import less
from givesifgets.kept import kept_lot
from givesifgets.planlists import plans_among
from givesifgets.plans import served
from givesifgets.webs import without


def apart(web, order, pairs, inside):
    """All whom a plan serves, and all who are kept without some pairs and without all pairs of these people."""
    helped = served(inside)
    return tuple(sorted(helped + kept_lot(without(less(web, pairs), helped), order)))


def best_apart(web, order, ward, most):
    """The most people of a ward who are served apart by plans of its own people, and some such plan."""
    pairs = [(u, v) for u, v in web[1] if u in ward and v in ward]
    many, best = -1, ()
    for inside in plans_among(pairs, most):
        mine = len([person for person in apart(web, order, (), inside) if person in ward])
        if mine > many:
            many, best = mine, inside
    return (many, best)
