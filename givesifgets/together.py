"""Tellings: what a lot of people may tell of their pairs together."""

from givesifgets.hiding import pairs_at
from givesifgets.kept import kept_lot
from givesifgets.planlists import plans_among
from givesifgets.webs import without


def tellings(web, lot, most):
    """All plans of pairs at a lot; Refused(most) if they are more than `most`."""
    return plans_among(pairs_at(web, lot), most)


def kept_telling(web, order, lot, telling):
    """Whom the web keeps if of the pairs at a lot only those of the telling are left."""
    return kept_lot((web[0], tuple(sorted(without(web, lot)[1] + telling))), order)


def gain_together(web, order, lot, most):
    """None, or some telling by which all kept ones of the lot still are, and somebody else of it is."""
    told = tellings(web, lot, most)
    kept = kept_lot(web, order)
    mine = [person for person in lot if person in kept]
    for telling in told:
        now = [person for person in kept_telling(web, order, lot, telling) if person in lot]
        if len(now) > len(mine) and all([person in now for person in mine]):
            return telling
    return None
