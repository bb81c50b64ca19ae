"""Slow, plain looks at what the document says, and values to ask about, for the tests."""

import itertools
import random


class Sack:
    """An object of no kind that the document knows."""


def deep(levels):
    value = ()
    for _ in range(levels):
        value = (value,)
    return value


ODD_VALUES = [
    None, True, False, -1, 0, 1, 2, 61, 10 ** 999, -10 ** 999, 0.0, 1.0, 2.5, float("inf"), float("nan"), 1j,
    "", "a", "way", "ring", "served", "barred", "0", b"", b"way", [], (), {}, set(), frozenset(), Sack(), Sack,
    len, range(3), [0], (0,), (1,), (True,), (False,), (0.0,), (1.0,), ("0",), (None,), (-1,), (10 ** 999,),
    ((),), ((), ()), ((), (), ()), ((), (), (), ()), [[]], [()], ([],), ([], []), {0: 1}, {0, 1}, (0, 1), [0, 1],
    (1, 0), (0, 0), (0, True), (False, 1), (0, 1, 2), (0, 1, 2, 3), ((0, 1),), [(0, 1)], ([0, 1],), ((0, 1), (0, 1)),
    ((0, 1), (1, 2)), ((0, 1, 2),), ((1, 0),), ((0, 0),), ((False, True),), ((0, 1.0),), (2, ((0, 1),)),
    (2, [(0, 1)]), (2, ((0, 2),)), (2, ((1, 0),)), (True, ()), (0, ()), (0, (), ()), (0, ((),)), ("way", (0, 1)),
    ("ring", (0, 1, 2, 3)), ("way", [0, 1]), ("way",), ("way", 0), ("way", None), ("way", (0, 1), ()),
    ("served", ()), ("barred", ()), ("served", []), ("other", ()), (None, None), (None, None, None),
    (None, None, None, None), ({}, {}), ({}, {}, {}), ({}, {}, {}, {}), ((0, 1), {}), ("", ""), ("ab", "cd"),
    (0, "x"), (1, (0.5,)), (((0,),), (), (), ()), deep(49), (deep(40), deep(40)), tuple(range(200)),
    tuple([(k, k + 1) for k in range(100)]), (((),) * 12, (), (), ()), (((),) * 13, (), (), ()),
]


WORDS = ("way", "ring", "served", "barred", "chain", "friend", "giver", "none", "who", "prices", "all", "some", "ask",
         "over")


def near_values(value):
    """Values that differ from a nested tuple of numbers and words in one place."""
    if isinstance(value, tuple):
        yield list(value)
        yield value + (0,)
        yield value + ((),)
        yield value + (None,)
        yield (value,)
        yield {}
        for at, thing in enumerate(value):
            yield value[:at] + value[at + 1:]
            yield value[:at] + (thing, thing) + value[at + 1:]
            if at:
                yield value[:at - 1] + (thing, value[at - 1]) + value[at + 1:]
            for other in near_values(thing):
                yield value[:at] + (other,) + value[at + 1:]
    elif isinstance(value, bool) or value is None:
        yield 0
        yield ()
    elif isinstance(value, int):
        yield from (value + 1, value - 1, value + 60, -value, float(value), bool(value), None, str(value), (value,), 0)
    elif isinstance(value, str):
        yield from (value + "x", value[:-1], value.upper(), "", None, 0, (value,)) + WORDS
    else:
        yield None


def all_values_near(values):
    """The values, and all near them, and odd ones."""
    for value in values:
        yield value
        yield from near_values(value)
    yield from ODD_VALUES


def only_tuples(value):
    """Whether what is told is tuples, integers, strings and None throughout."""
    if isinstance(value, tuple):
        return all(only_tuples(thing) for thing in value)
    return value is None or isinstance(value, (bool, int, str))


def lots_of(n):
    return [lot for size in range(n + 1) for lot in itertools.combinations(range(n), size)]


def all_webs(n):
    pairs = list(itertools.combinations(range(n), 2))
    for mask in range(1 << len(pairs)):
        yield (n, tuple(pair for at, pair in enumerate(pairs) if mask >> at & 1))


def drawn_web(rng, n, share):
    return (n, tuple(pair for pair in itertools.combinations(range(n), 2) if rng.random() < share))


def drawn_webs(seed, many, least, most):
    rng = random.Random(seed)
    for _ in range(many):
        yield drawn_web(rng, rng.randint(least, most), rng.choice((0.15, 0.3, 0.5, 0.8)))


def drawn_order(rng, n):
    order = list(range(n))
    rng.shuffle(order)
    return tuple(order)


def all_plans(web):
    """All plans of a web, the empty one first."""
    plans = [()]
    for pair in web[1]:
        plans.extend([plan + (pair,) for plan in plans if not set(pair) & {p for q in plan for p in q}])
    return plans


def is_one_of(value, things):
    """Whether a value is one of some things, of the same kinds throughout: True is not 1, a list no tuple."""
    return repr(value) in {repr(thing) for thing in things}


def people_in(plan):
    return {person for pair in plan for person in pair}


def joined(web, u, v):
    return (min(u, v), max(u, v)) in web[1]


def plain_turns(web, plan):
    """All turns of a plan, found by going on pair by pair."""
    helped = people_in(plan)
    turns = []

    def go_on(people, marks):
        if len(people) > 1:
            first_ends = marks[0] or people[0] not in helped
            if first_ends and (marks[-1] or people[-1] not in helped):
                turns.append(("way", tuple(people)))
            if len(people) >= 4 and joined(web, people[0], people[-1]):
                last = (min(people[0], people[-1]), max(people[0], people[-1])) in plan
                if last != marks[0] and last != marks[-1]:
                    turns.append(("ring", tuple(people)))
        for person in range(web[0]):
            if person not in people and joined(web, people[-1], person):
                mark = (min(people[-1], person), max(people[-1], person)) in plan
                if not marks or marks[-1] != mark:
                    go_on(people + [person], marks + [mark])

    for person in range(web[0]):
        go_on([person], [])
    return turns


def plain_even_ways(web, plan):
    """All even ways by a plan."""
    helped = people_in(plan)
    mates = {u: v for u, v in plan}
    mates.update({v: u for u, v in plan})
    ways = []

    def go_on(way):
        ways.append(way)
        for other in range(web[0]):
            if other not in way and joined(web, way[-1], other) and other in mates and mates[other] not in way:
                go_on(way + (other, mates[other]))

    for person in range(web[0]):
        if person not in helped:
            go_on((person,))
    return ways


def plain_parts(web, lot):
    """The parts of what is left of a web without a lot, ascending."""
    left = [person for person in range(web[0]) if person not in lot]
    names = {person: person for person in left}
    for _ in left:
        for u, v in web[1]:
            if u in names and v in names:
                names[u] = names[v] = min(names[u], names[v])
    return sorted(tuple(q for q in left if names[q] == name) for name in set(names.values()))


def plain_odd_parts(web, lot):
    return tuple(part for part in plain_parts(web, lot) if len(part) % 2)


def plain_closed(web, lot, taken):
    return tuple(part for part in plain_odd_parts(web, taken) if set(part) <= set(lot))


class Tried:
    """A web with what a trying of all its plans tells."""

    def __init__(self, web):
        self.web = web
        self.n = web[0]
        self.plans = all_plans(web)
        self.masks = sorted({sum(1 << person for person in people_in(plan)) for plan in self.plans})
        self.size = max(len(plan) for plan in self.plans)
        self.largest = [plan for plan in self.plans if len(plan) == self.size]

    def mask(self, lot):
        return sum(1 << person for person in lot)

    def servable(self, lot):
        mask = self.mask(lot)
        return any(helped & mask == mask for helped in self.masks)

    def most(self, lot):
        mask = self.mask(lot)
        return max(bin(helped & mask).count("1") for helped in self.masks)

    def free(self):
        return tuple(p for p in range(self.n) if any(p not in people_in(plan) for plan in self.largest))

    def three(self):
        free = self.free()
        near = tuple(p for p in range(self.n) if p not in free and any(joined(self.web, p, q) for q in free))
        return (free, near, tuple(p for p in range(self.n) if p not in free and p not in near))

    def bases(self):
        return sorted({tuple(sorted(people_in(plan))) for plan in self.largest})

    def kept(self, order):
        lot = ()
        for person in order:
            if self.servable(lot + (person,)):
                lot += (person,)
        return tuple(sorted(lot))
