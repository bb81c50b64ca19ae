"""A plain look at lives and changes, and drawn ones, for the tests."""

from givesifgets.living import begun
from givesifgets.livingchanges import changed
from givesifgets.webs import pair_web
from tests.plain import Tried, drawn_order, people_in
from tests.plainworlds import (drawn_registry, drawn_run, likely_deeds, owner_of, plain_do, plain_start, plain_tie, whole,
                               wrong_entry)

CHANGE_WORDS = {"deed": 2, "move": 3, "promise": 2, "free": 2, "all": 1}


def plain_web_left(world):
    left = [person for person in range(len(world[1][1])) if person not in world[2] + world[5]]
    n, pairs = pair_web(world[1])
    return (n, tuple((u, v) for u, v in pairs if u in left and v in left))


def plain_people_left(world):
    return [person for person in range(len(world[1][1])) if person not in world[2] + world[5]]


def plain_open(world, promised):
    n, pairs = plain_web_left(world)
    return (n, tuple((u, v) for u, v in pairs if not {u, v} & people_in(promised)))


def plain_served(life):
    return sorted(people_in(life[2]) | people_in(life[3]))


def is_pair_in(value, pairs):
    return repr(value) in {repr(pair) for pair in pairs}


def getting(deed):
    ties = deed[1] if deed[0] == "ring" else (deed[1],) if deed[0] == "link" else ()
    return {person for _, person in ties}


def plain_is_change(life, value):
    world, order, promised, plan = life
    if type(value) is not tuple or not value or type(value[0]) is not str or CHANGE_WORDS.get(value[0]) != len(value):
        return False
    word, n = value[0], len(order)
    if word == "deed":
        if wrong_entry(world, value[1]) is not None:
            return False
        people = getting(value[1])
        return not people & people_in(promised) or people in [set(pair) for pair in promised]
    if word == "move":
        return whole(value[1], 0, n) and whole(value[2], 0, n)
    if word == "all":
        return True
    return is_pair_in(value[1], plan if word == "promise" else promised)


def plain_ring(world, pair):
    """The ring of two of a pair, each giving by his least friend with a tie."""
    ties = []
    for owner, person in (pair, pair[::-1]):
        ties.append(next((friend, person) for friend in range(len(world[1][2])) if owner_of(
            world[1], friend) == owner and plain_tie(world[1], friend, person)))
    return ("ring", tuple(ties))


def plain_behind(life, change):
    """The world, the order and the promised pairs behind a change that can be made."""
    world, order, promised, plan = life
    promised, order = set(promised), list(order)
    if change[0] == "deed":
        world = plain_do(world, change[1])
        order += range(len(order), len(world[1][1]))
    if change[0] == "all":
        for pair in sorted(promised | set(plan), reverse=True):
            world = plain_do(world, plain_ring(world, pair))
    if change[0] == "move":
        order.remove(change[1])
        order.insert(change[2], change[1])
    if change[0] == "promise":
        promised.add(change[1])
    if change[0] == "free":
        promised.remove(change[1])
    promised &= set(plain_web_left(world)[1])
    return world, tuple(order), tuple(sorted(promised))


def likely_changes(rng, life):
    """Some changes, most of which can be made."""
    world, order, promised, plan = life
    changes = [("deed", deed) for deed in rng.sample(likely_deeds(rng, world), 2)]
    changes += [("promise", pair) for pair in plan[:2]] + [("free", pair) for pair in promised[:1]]
    changes += [("deed", plain_ring(world, pair)) for pair in rng.sample(plan + promised, min(1, len(plan + promised)))]
    if order:
        changes += [("move", rng.choice(order), rng.randrange(len(order))) for _ in range(2)]
    return changes + ([("all",)] if rng.random() < 0.2 else [])


def drawn_life(rng, longest=6):
    """A life some changes behind a begun one."""
    _, worlds = drawn_run(rng, plain_start(drawn_registry(rng, (2, 4, 5, 6, 6, 7))), rng.choice((0, 0, 1, 3)))
    life = begun(worlds[-1], drawn_order(rng, len(worlds[-1][1][1])))
    return life_behind(rng, life, rng.randint(0, longest))[1][-1]


def life_behind(rng, life, many, allowed=None):
    """A row of changes that can be made, and the lives along it."""
    changes, lives = [], [life]
    for _ in range(many):
        able = [change for change in likely_changes(rng, lives[-1]) if plain_is_change(lives[-1], change)]
        able = [change for change in able if allowed is None or allowed(change, lives[-1])]
        if able:
            changes.append(rng.choice(able))
            lives.append(changed(lives[-1], changes[-1]))
    return changes, lives


def plain_kept(web, order):
    return Tried(web).kept(order)
