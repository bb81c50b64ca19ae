"""Wishes, and dockets: a registry with an order of needs and the wishes of its people."""

from givesifgets.registry import is_registry, registry_of
from givesifgets.values import are_unlike_below, is_tuple_of
from givesifgets.webs import arcs_of, is_order


def are_wishes(n, value):
    """Whether any value is wishes of n people."""
    if not is_tuple_of(n, value) or not all([are_unlike_below(n, row) for row in value]):
        return False
    return all([len(row) > 0 and row[-1] == person for person, row in enumerate(value)])


def is_docket(value):
    """Whether any value is a docket."""
    if not is_tuple_of(3, value) or not is_registry(value[0]):
        return False
    registry, order, wishes = value
    n = len(registry[1])
    if not is_order(n, order) or not are_wishes(n, wishes):
        return False
    known = {arc: True for arc in arcs_of(registry)[1]}
    return all([(other, person) in known for person, row in enumerate(wishes) for other in row[:-1]])


def _placed(things, names):
    """The things, each put at the place that names tells for its own."""
    row = list(things)
    for at, thing in enumerate(things):
        row[names[at]] = thing
    return tuple(row)


def renamed_docket(docket, names):
    """The docket in which person p is called names[p]."""
    (fits, people, friends, barred), order, wishes = docket
    owned = [(kind, None if owner is None else names[owner]) for kind, owner in friends]
    pairs = [(friend, names[person]) for friend, person in barred]
    rows = [tuple([names[other] for other in row]) for row in wishes]
    registry = registry_of(fits, _placed(people, names), owned, pairs)
    return (registry, tuple([names[person] for person in order]), _placed(rows, names))
