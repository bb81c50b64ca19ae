"""A slow, plain machine of deeds, and drawn registries, deeds and runs of them, for the tests."""

from givesifgets.registry import registry_of

WORDS = {"test": 4, "ring": 2, "link": 2, "away": 2, "back": 2, "come": 3, "day": 1}


def whole(value, least, end):
    return type(value) is int and least <= value < end


def plain_tie(registry, friend, person):
    fits, people, friends, barred = registry
    kind, owner = friends[friend]
    return people[person] in fits[kind] and owner != person and (friend, person) not in barred


def plain_ties(registry):
    return [(friend, person) for friend in range(len(registry[2])) for person in range(len(registry[1]))
            if plain_tie(registry, friend, person)]


def is_plain_tie(registry, value):
    return type(value) is tuple and len(value) == 2 and whole(value[0], 0, len(registry[2])) and whole(
        value[1], 0, len(registry[1])) and plain_tie(registry, *value)


def owner_of(registry, friend):
    return registry[2][friend][1]


def has_friends(registry, person):
    return any(owner == person for _, owner in registry[2])


def ring_fits(world, ties):
    """Whether any value is the ties of a ring that can be done."""
    _, registry, got, _, _, away = world
    if type(ties) is not tuple or len(ties) < 2 or not all(is_plain_tie(registry, tie) for tie in ties):
        return False
    for at, (_, person) in enumerate(ties):
        friend = ties[(at + 1) % len(ties)][0]
        if owner_of(registry, friend) != person or person in got or person in away:
            return False
    return len({person for _, person in ties}) == len(ties)


def link_fits(world, tie):
    _, registry, got, gave, due, away = world
    if not is_plain_tie(registry, tie) or tie[1] in got or tie[1] in away or tie[0] in gave:
        return False
    owner = owner_of(registry, tie[0])
    return owner is None or owner in dict(due) and owner not in away


def wrong_entry(world, deed):
    """The index of the first wrong entry of any value as a deed, None if it can be done."""
    if type(deed) is not tuple or not deed or type(deed[0]) is not str or WORDS.get(deed[0]) != len(deed):
        return 0
    _, registry, got, _, _, away = world
    fits, people, friends, _ = registry
    word = deed[0]
    if word == "test":
        if not whole(deed[1], 0, len(friends)):
            return 1
        if not is_plain_tie(registry, deed[1:3]):
            return 2
        return None if deed[3] is True or deed[3] is False else 3
    if word == "ring":
        return None if ring_fits(world, deed[1]) else 1
    if word == "link":
        return None if link_fits(world, deed[1]) else 1
    if word in ("away", "back"):
        here = whole(deed[1], 0, len(people))
        return None if here and (deed[1] in away) == (word == "back") else 1
    if word == "come":
        if deed[1] is not None and (not whole(deed[1], 0, len(fits)) or len(people) > 59):
            return 1
        if type(deed[2]) is not tuple or not all(whole(kind, 0, len(fits)) for kind in deed[2]):
            return 2
        return 2 if len(friends) + len(deed[2]) > 120 else None
    return None


def plain_do(world, deed):
    """The world behind a deed that can be done."""
    day, (fits, people, friends, barred), got, gave, due, away = world
    registry = world[1]
    got, gave, since, away = set(got), set(gave), dict(due), set(away)
    word = deed[0]
    if word == "test" and not deed[3]:
        barred = tuple(sorted(set(barred) | {deed[1:3]}))
    if word in ("ring", "link"):
        for friend, person in deed[1] if word == "ring" else (deed[1],):
            gave.add(friend)
            got.add(person)
            since.pop(owner_of(registry, friend), None)
            if word == "link" and has_friends(registry, person):
                since[person] = day
    if word == "away":
        away.add(deed[1])
    if word == "back":
        away.remove(deed[1])
    if word == "come":
        owner = None if deed[1] is None else len(people)
        people += () if deed[1] is None else (deed[1],)
        friends += tuple((kind, owner) for kind in deed[2])
    if word == "day":
        day += 1
    registry = (fits, people, friends, barred)
    return (day, registry, tuple(sorted(got)), tuple(sorted(gave)), tuple(sorted(since.items())), tuple(sorted(away)))


def is_plain_lot(n, value):
    return type(value) is tuple and all(whole(thing, 0, n) for thing in value) and list(value) == sorted(set(value))


def plain_is_world(is_registry, value):
    """Whether any value is a world, whether its registry is one being told."""
    if type(value) is not tuple or len(value) != 6 or not type(value[0]) is int or value[0] < 0:
        return False
    if not is_registry(value[1]):
        return False
    day, registry, got, gave, due, away = value
    n = len(registry[1])
    if not is_plain_lot(n, got) or not is_plain_lot(len(registry[2]), gave) or not is_plain_lot(n, away):
        return False
    if type(due) is not tuple or not all(type(entry) is tuple and len(entry) == 2 and whole(entry[0], 0, n) and whole(
            entry[1], 0, day + 1) for entry in due):
        return False
    people = [person for person, _ in due]
    if people != sorted(set(people)) or len(got) != len(gave):
        return False
    owners = [owner_of(registry, friend) for friend in gave if owner_of(registry, friend) is not None]
    if len(set(owners)) != len(owners) or not set(owners) <= set(got):
        return False
    wanted = {person for person in range(n) if person in got and has_friends(registry, person) and person not in owners}
    return set(people) == wanted


def drawn_registry(rng, many=(0, 1, 2, 3, 4, 5, 6, 6, 7)):
    kinds = rng.randint(1, 3)
    n = rng.choice(many)
    fits = [[kind for kind in range(kinds) if rng.random() < 0.8] for _ in range(kinds)]
    people = [rng.randrange(kinds) for _ in range(n)]
    owners = [owner for owner in range(n) if rng.random() < 0.85] + [owner for owner in range(n) if rng.random() < 0.2]
    owners += [None] * rng.randint(0, 2)
    rng.shuffle(owners)
    friends = [(rng.randrange(kinds), owner) for owner in owners]
    barred = [(friend, person) for friend in range(len(friends)) for person in range(n) if rng.random() < 0.07]
    return registry_of(fits, people, friends, barred)


def drawn_rings(rng, world, many=3):
    """Some rings that can be done, of two people and more, found by going from tie to tie."""
    registry = world[1]
    ties = [tie for tie in plain_ties(registry) if owner_of(registry, tie[0]) is not None]
    rings = []
    for _ in range(many * 4):
        row = [rng.choice(ties)] if ties else []
        while row:
            ahead = [tie for tie in ties if owner_of(registry, tie[0]) == row[-1][1]]
            if not ahead or len(row) > 5:
                break
            row.append(rng.choice(ahead))
            if row[-1][1] == owner_of(registry, row[0][0]):
                rings.append(("ring", tuple(row)))
                break
    return [ring for ring in rings if wrong_entry(world, ring) is None][:many]


def likely_deeds(rng, world):
    """Some deeds, most of which can be done."""
    registry = world[1]
    n, kinds = len(registry[1]), len(registry[0])
    ties = plain_ties(registry)
    deeds = drawn_rings(rng, world) * 2 + [("day",)]
    deeds += [("link", tie) for tie in ties if link_fits(world, tie)][:4]
    deeds += [("test",) + tie + (rng.random() < 0.5,) for tie in rng.sample(ties, min(2, len(ties)))]
    deeds += [(word, person) for word in ("away", "back") for person in rng.sample(range(n), min(n, 2))]
    if n < 9 or rng.random() < 0.1:
        deeds.append(("come", rng.choice([None] + list(range(kinds))),
                      tuple(rng.randrange(kinds) for _ in range(rng.randint(0, 2)))))
    return deeds


def drawn_run(rng, world, many):
    """A row of deeds that can be done one after another, with the worlds ahead of each one and behind the last."""
    deeds, worlds = [], [world]
    for _ in range(many):
        able = [deed for deed in likely_deeds(rng, worlds[-1]) if wrong_entry(worlds[-1], deed) is None]
        deed = rng.choice(able)
        deeds.append(deed)
        worlds.append(plain_do(worlds[-1], deed))
    return deeds, worlds


def plain_start(registry):
    return (0, registry, (), (), (), ())
