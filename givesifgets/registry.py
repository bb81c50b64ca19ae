"""Registries: who is there, of what kind, whose friend is whose, and who may give to whom."""

from givesifgets.errors import InvalidRegistry
from givesifgets.values import is_below, is_sequence, is_tuple_of

MOST_KINDS = 12
MOST_PEOPLE = 60
MOST_FRIENDS = 120


def _is_short_pair(value):
    return is_sequence(value) and len(value) == 2


def _are_kinds(kinds, value):
    return is_sequence(value) and all([is_below(kinds, thing) for thing in value])


def _are_fits(value):
    if not is_sequence(value) or not 1 <= len(value) <= MOST_KINDS:
        return False
    return all([_are_kinds(len(value), row) for row in value])


def _are_people(kinds, value):
    return _are_kinds(kinds, value) and len(value) <= MOST_PEOPLE


def _is_friend(kinds, people, value):
    if not _is_short_pair(value) or not is_below(kinds, value[0]):
        return False
    return value[1] is None or is_below(people, value[1])


def _are_friends(kinds, people, value):
    if not is_sequence(value) or len(value) > MOST_FRIENDS:
        return False
    return all([_is_friend(kinds, people, thing) for thing in value])


def _is_barred(friends, people, value):
    return _is_short_pair(value) and is_below(friends, value[0]) and is_below(people, value[1])


def _are_barred(friends, people, value):
    return is_sequence(value) and all([_is_barred(friends, people, thing) for thing in value])


def _first_wrong(fits, people, friends, barred):
    """The number of the first part that is not what it should be, None if all are."""
    if not _are_fits(fits):
        return 0
    if not _are_people(len(fits), people):
        return 1
    if not _are_friends(len(fits), len(people), friends):
        return 2
    if not _are_barred(len(friends), len(people), barred):
        return 3
    return None


def registry_of(fits, people, friends, barred):
    """The registry with these parts, any values, put in order and in tuples."""
    wrong = _first_wrong(fits, people, friends, barred)
    if wrong is not None:
        raise InvalidRegistry(wrong)
    rows = tuple([tuple(sorted(set(row))) for row in fits])
    owned = tuple([(kind, owner) for kind, owner in friends])
    return (rows, tuple(people), owned, tuple(sorted({(friend, person) for friend, person in barred})))


def is_registry(value):
    """Whether any value is a registry."""
    if not is_tuple_of(4, value) or _first_wrong(*value) is not None:
        return False
    # a list equals no tuple, so all of it is in tuples, too
    return value == registry_of(*value)


def has_tie(registry, friend, person):
    """Whether a friend may give to a person."""
    fits, people, friends, barred = registry
    kind, owner = friends[friend]
    return people[person] in fits[kind] and owner != person and (friend, person) not in barred


def ties_of(registry):
    """All pairs (friend, person) with a tie."""
    fits, people, friends, barred = registry
    # a barred tuple can be long: looked up in a dict, sixty people and all friends are quick
    known = {pair: True for pair in barred}
    ties = []
    for friend, (kind, owner) in enumerate(friends):
        for person, wanted in enumerate(people):
            if wanted in fits[kind] and owner != person and (friend, person) not in known:
                ties.append((friend, person))
    return tuple(ties)


def friends_of(registry, person):
    """The friends whose owner is this person."""
    return tuple([friend for friend, (_, owner) in enumerate(registry[2]) if owner == person])


def free_friends(registry):
    """The friends without an owner."""
    return tuple([friend for friend, (_, owner) in enumerate(registry[2]) if owner is None])


def barred_more(registry, friend, person):
    """The registry in which this pair is barred, too."""
    fits, people, friends, barred = registry
    return registry_of(fits, people, friends, barred + ((friend, person),))
