"""News: what becomes of the kept lot when the pairs of a web change."""

from givesifgets.kept import kept_lot, kept_plan
from givesifgets.plans import is_plan, served
from givesifgets.strands import strands
from givesifgets.turns import steps_of, turned_pairs
from givesifgets.values import is_tuple_of


def changed_pairs(web, other):
    """The pairs that just one of two webs has."""
    return tuple(sorted(set(web[1]) ^ set(other[1])))


def come_and_gone_lots(before, behind):
    """The lots of those who are just in the second and just in the first of two lots."""
    come = tuple([person for person in behind if person not in before])
    return (come, tuple([person for person in before if person not in behind]))


def come_and_gone(web, other, order):
    """Those whom just the other web keeps, and those whom just the first one keeps."""
    return come_and_gone_lots(kept_lot(web, order), kept_lot(other, order))


def _has_any(strand, pairs):
    return any([pair in pairs for pair in steps_of(strand)])


def near_plans(web, other, order):
    """Some plans, one of each web, that serve just the kept ones, with a changed pair in each of their strands."""
    changed = changed_pairs(web, other)
    one, far = kept_plan(web, order), kept_plan(other, order)
    near = far
    for strand in strands(one, far):
        # all its pairs are in both webs: so it is a ring, and by turning it nobody comes or goes
        if not _has_any(strand, changed):
            near = turned_pairs(near, strand)
    return (one, near)


def _is_kept_plan(web, order, value):
    return is_plan(web, value) and served(value) == kept_lot(web, order)


def are_near_plans(web, other, order, value):
    """Whether any value is such a pair of plans."""
    if not is_tuple_of(2, value):
        return False
    one, near = value
    if not _is_kept_plan(web, order, one) or not _is_kept_plan(other, order, near):
        return False
    changed = changed_pairs(web, other)
    return all([_has_any(strand, changed) for strand in strands(one, near)])
