"""Deeds: what can be done in a world, and the world behind it."""

from givesifgets.errors import InvalidDeed
from givesifgets.registry import MOST_FRIENDS, MOST_PEOPLE, friends_of, has_tie
from givesifgets.values import are_below, are_unlike_below, is_below, is_tuple_of
from givesifgets.worlds import givers_left, people_left


def _is_tie(registry, value):
    """Whether any value is a pair (friend, person) with a tie."""
    if not is_tuple_of(2, value) or not is_below(len(registry[2]), value[0]):
        return False
    return is_below(len(registry[1]), value[1]) and has_tie(registry, value[0], value[1])


def _more(lot, things):
    return tuple(sorted(lot + tuple(things)))


def _test(world, deed):
    _, friend, person, holds = deed
    day, registry, got, gave, due, away = world
    fits, people, friends, barred = registry
    if not is_below(len(friends), friend):
        raise InvalidDeed(1)
    if not _is_tie(registry, (friend, person)):
        raise InvalidDeed(2)
    if not isinstance(holds, bool):
        raise InvalidDeed(3)
    if holds:
        return world
    return (day, (fits, people, friends, _more(barred, [(friend, person)])), got, gave, due, away)


def _is_ring(world, ties):
    """Whether any value is ties by which the people of a ring can get all at once."""
    registry = world[1]
    if not isinstance(ties, tuple) or len(ties) < 2 or not all([_is_tie(registry, tie) for tie in ties]):
        return False
    owners = [registry[2][friend][1] for friend, _ in ties]
    people = tuple([person for _, person in ties])
    # a free friend has no owner, so his tie fits no ring
    if list(people) != owners[1:] + owners[:1] or not are_unlike_below(len(registry[1]), people):
        return False
    left = people_left(world)
    return all([person in left for person in people])


def _ring(world, deed):
    ties = deed[1]
    if not _is_ring(world, ties):
        raise InvalidDeed(1)
    day, registry, got, gave, due, away = world
    people, friends = [person for _, person in ties], [friend for friend, _ in ties]
    return (day, registry, _more(got, people), _more(gave, friends), due, away)


def _link(world, deed):
    day, registry, got, gave, due, away = world
    if not _is_tie(registry, deed[1]):
        raise InvalidDeed(1)
    friend, person = deed[1]
    # whose owner is due, of his friends none gave
    if friend not in givers_left(world) or person not in people_left(world):
        raise InvalidDeed(1)
    owner = registry[2][friend][1]
    later = [entry for entry in due if entry[0] != owner]
    if friends_of(registry, person):
        later.append((person, day))
    return (day, registry, _more(got, [person]), _more(gave, [friend]), tuple(sorted(later)), away)


def _away(world, deed):
    day, registry, got, gave, due, away = world
    if not is_below(len(registry[1]), deed[1]) or deed[1] in away:
        raise InvalidDeed(1)
    return (day, registry, got, gave, due, _more(away, [deed[1]]))


def _back(world, deed):
    day, registry, got, gave, due, away = world
    if not is_below(len(registry[1]), deed[1]) or deed[1] not in away:
        raise InvalidDeed(1)
    return (day, registry, got, gave, due, tuple([person for person in away if person != deed[1]]))


def _come(world, deed):
    _, kind, kinds = deed
    day, (fits, people, friends, barred), got, gave, due, away = world
    if kind is not None and (not is_below(len(fits), kind) or len(people) >= MOST_PEOPLE):
        raise InvalidDeed(1)
    if not are_below(len(fits), kinds) or len(friends) + len(kinds) > MOST_FRIENDS:
        raise InvalidDeed(2)
    owner = None if kind is None else len(people)
    more = people if kind is None else people + (kind,)
    registry = (fits, more, friends + tuple([(thing, owner) for thing in kinds]), barred)
    return (day, registry, got, gave, due, away)


def _day(world, deed):
    return (world[0] + 1,) + world[1:]


DOINGS = {"test": _test, "ring": _ring, "link": _link, "away": _away, "back": _back, "come": _come, "day": _day}
ENTRIES = {"test": 4, "ring": 2, "link": 2, "away": 2, "back": 2, "come": 3, "day": 1}


def do_deed(world, deed):
    """The world behind a deed, any value."""
    if not isinstance(deed, tuple) or len(deed) == 0 or not isinstance(deed[0], str):
        raise InvalidDeed(0)
    if len(deed) != ENTRIES.get(deed[0]):
        raise InvalidDeed(0)
    doing = DOINGS[deed[0]]
    return doing(world, deed)


def can_do(world, deed):
    """Whether any value is a deed that can be done."""
    try:
        do_deed(world, deed)
    except InvalidDeed:
        return False
    return True


def do_all(world, deeds):
    """The world behind a sequence of deeds, one after another."""
    for at, deed in enumerate(deeds):
        try:
            world = do_deed(world, deed)
        except InvalidDeed:
            raise InvalidDeed(at) from None
    return world


def ring_deed(world, people):
    """The ring in which each of some people, any value, gives to the next one; None if it cannot be done."""
    registry = world[1]
    if not are_unlike_below(len(registry[1]), people):
        return None
    ties = []
    for owner, person in zip(people, people[1:] + people[:1]):
        able = [friend for friend in friends_of(registry, owner) if has_tie(registry, friend, person)]
        if not able:
            return None
        ties.append((able[0], person))
    deed = ("ring", tuple(ties))
    return deed if can_do(world, deed) else None
