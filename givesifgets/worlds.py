"""Worlds: who got, which friends gave, who is due and who is away; and who and what is left."""

from givesifgets.registry import free_friends, friends_of, is_registry, ties_of
from givesifgets.values import is_ascending, is_below, is_number, is_tuple_of
from givesifgets.webs import is_lot, pair_web, without


def start_world(registry):
    """The world of day 0, in which nothing is done yet."""
    return (0, registry, (), (), (), ())


def _is_due_entry(n, day, value):
    return is_tuple_of(2, value) and is_below(n, value[0]) and is_below(day + 1, value[1])


def _is_formed(value):
    """Whether any value has the parts of a world."""
    if not is_tuple_of(6, value) or not is_number(value[0]) or not is_registry(value[1]):
        return False
    day, registry, got, gave, due, away = value
    n = len(registry[1])
    if not is_lot(n, got) or not is_lot(len(registry[2]), gave) or not is_lot(n, away):
        return False
    if not isinstance(due, tuple) or not all([_is_due_entry(n, day, entry) for entry in due]):
        return False
    return is_ascending(due)


def _still_to_give(registry, got, gave):
    """Those who got, have friends, and none of these gave."""
    owners = {owner: True for _, owner in registry[2]}
    done = {registry[2][friend][1]: True for friend in gave}
    return [person for person in got if person in owners and person not in done]


def is_world(value):
    """Whether any value is a world."""
    if not _is_formed(value):
        return False
    _, registry, got, gave, due, _ = value
    owners = [registry[2][friend][1] for friend in gave if registry[2][friend][1] is not None]
    if len(gave) != len(got) or len(set(owners)) != len(owners):
        return False
    if not all([owner in got for owner in owners]):
        return False
    return [person for person, _ in due] == _still_to_give(registry, got, gave)


def people_left(world):
    """Those who have not got and are not away."""
    _, registry, got, _, _, away = world
    gone = {person: True for person in got + away}
    return tuple([person for person in range(len(registry[1])) if person not in gone])


def web_left(world):
    """The web of the registry without the pairs that have anybody who is not left."""
    _, registry, got, _, _, away = world
    return without(pair_web(registry), got + away)


def givers_left(world):
    """The free friends who did not give, and the friends of due people who are not away."""
    _, registry, _, gave, due, away = world
    givers = [friend for friend in free_friends(registry) if friend not in gave]
    for person, _ in due:
        if person not in away:
            givers.extend(friends_of(registry, person))
    return tuple(sorted(givers))


def links_left(world):
    """All pairs (friend, person) with which a link can be done."""
    givers = {friend: True for friend in givers_left(world)}
    people = {person: True for person in people_left(world)}
    return tuple([(friend, person) for friend, person in ties_of(world[1]) if friend in givers and person in people])
