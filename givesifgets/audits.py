"""Why not I: what somebody who is not kept can read of those who stand ahead of him."""

from givesifgets.errors import InvalidQuestion
from givesifgets.kept import kept_lot
from givesifgets.keptpapers import with_those_ahead
from givesifgets.lotbarriers import closed_parts
from givesifgets.search import Forest
from givesifgets.servable import keep_along
from givesifgets.values import is_below, is_tuple_of
from givesifgets.webs import is_lot, parts_left, rows_of


def lot_with_those_ahead(web, order, person):
    """The lot of a person, any value, who must be of the web and not kept, and all kept ones ahead of him."""
    if not is_below(web[0], person):
        raise InvalidQuestion(2)
    kept = kept_lot(web, order)
    if person in kept:
        raise InvalidQuestion(2)
    return with_those_ahead(order, kept, person)


def why_not(web, order, person):
    """The groups of those in whose place a person could come, and the few who could help out a group each."""
    lot = lot_with_those_ahead(web, order, person)
    mates, _ = keep_along(web, [other for other in lot if other != person])
    forest = Forest(rows_of(web), mates, [person], [other in lot for other in range(web[0])])
    # he is not servable with all ahead of him: so the search ends with all in whose place he could come
    forest.turnable()
    wanting, few = forest.reached_evenly(), forest.reached_oddly()
    return (tuple([part for part in parts_left(web, few) if part[0] in wanting]), few)


def is_reason(web, order, person, value):
    """Whether any value shows by one count that a person cannot be kept."""
    lot = lot_with_those_ahead(web, order, person)
    if not is_tuple_of(2, value) or not isinstance(value[0], tuple) or not is_lot(web[0], value[1]):
        return False
    groups, few = value
    if not all([is_lot(web[0], group) for group in groups]):
        return False
    parts = closed_parts(web, lot, few)
    if not all([group in parts for group in groups]) or len(set(groups)) != len(groups):
        return False
    return len(groups) > len(few)
