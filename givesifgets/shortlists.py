"""Short lists: the pairs that are worth testing, whatever few of them fall out."""

from givesifgets.errors import InvalidQuestion
from givesifgets.search import largest_plan
from givesifgets.values import as_pair
from givesifgets.webs import is_lot, rows_of


def is_cover(web, value):
    """Whether any value is a lot with somebody of each pair of the web."""
    return is_lot(web[0], value) and all([u in value or v in value for u, v in web[1]])


def first_cover(web):
    """The people of the plan made by taking, along the pairs, each of which nobody is served yet."""
    taken = {}
    for u, v in web[1]:
        if u not in taken and v not in taken:
            taken[u] = True
            taken[v] = True
    return tuple(sorted(taken))


def short_list(web, order, cover, most):
    """The web of the pairs worth testing if at most so many fall out; the cover is any value, and must be one."""
    if not is_cover(web, cover):
        raise InvalidQuestion(2)
    inside = {person: True for person in cover}
    wanted = most + len(largest_plan(web))
    pairs = [(u, v) for u, v in web[1] if u in inside and v in inside]
    rows = rows_of(web)
    for person in cover:
        near = {other: True for other in rows[person] if other not in inside}
        pairs.extend([as_pair(person, other) for other in [q for q in order if q in near][:wanted]])
    return (web[0], tuple(sorted(pairs)))
