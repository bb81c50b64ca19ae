"""Largest plans, and the search for even ways that finds them."""

from givesifgets.plans import unserved
from givesifgets.values import are_unlike_below, as_pair
from givesifgets.webs import rows_of, without


class Forest:
    """The people whom even ways from some unserved ones, the roots, lead to, found step by step.

    Where two even ways close a ring of an odd number of people, all on it are
    reached evenly, and it counts as one person, its base, from then on.
    """

    def __init__(self, rows, mates, roots, wanted):
        # for each person: who makes a pair with him, his partner, and whether he may not be given up
        self.rows = rows
        self.mates = mates
        self.wanted = wanted
        # the next one towards a root: of someone reached oddly, or on the far side of a closed ring
        self.links = [None for _ in rows]
        self.bases = list(range(len(rows)))
        self.evenly = [False for _ in rows]
        self.found = []
        for root in roots:
            self.reach(root)

    def reach(self, person):
        """Note that an even way leads to a person."""
        self.evenly[person] = True
        self.found.append(person)

    def turnable(self):
        """The people of a way by which a root becomes served and nobody wanted is given up, None if none is.

        It ends with another one who isn't served, or evenly with somebody who
        is not wanted. Behind None all that can be reached evenly is reached.
        """
        at = 0
        while at < len(self.found):
            person = self.found[at]
            if not self.wanted[person]:
                return self.way_to(person)
            for other in self.rows[person]:
                way = self.step(person, other)
                if way is not None:
                    return way
            at += 1
        return None

    def step(self, person, other):
        """Go on from one reached evenly to another one; a growing way if there is one now, else None."""
        if self.evenly[other]:
            return self.meet(person, other)
        if self.links[other] is not None:
            return None
        if self.mates[other] is None:
            return self.way_to(person) + [other]
        self.links[other] = person
        self.reach(self.mates[other])
        return None

    def meet(self, one, other):
        """Two reached evenly make a pair: a ring is closed, or a way between two roots is found."""
        if self.bases[one] == self.bases[other]:
            return None
        base = self.meeting_base(one, other)
        if base is None:
            return self.way_to(one) + self.way_to(other)[::-1]
        self.close_ring(one, other, base)
        return None

    def bases_above(self, person):
        """The bases on the way from a person to its root."""
        bases = [self.bases[person]]
        while self.mates[bases[-1]] is not None:
            bases.append(self.bases[self.links[self.mates[bases[-1]]]])
        return bases

    def meeting_base(self, one, other):
        """The first base that the ways of two people have in common, None if they have none."""
        passed = {base: True for base in self.bases_above(one)}
        for base in self.bases_above(other):
            if base in passed:
                return base
        return None

    def close_ring(self, one, other, base):
        """Let all on the ring be reached evenly, and count as its base."""
        closed = {}
        self.turn_links(one, other, base, closed)
        self.turn_links(other, one, base, closed)
        for person, inner in enumerate(list(self.bases)):
            if inner in closed:
                self.bases[person] = base
                if not self.evenly[person]:
                    self.reach(person)

    def turn_links(self, person, behind, base, closed):
        """Link one side of a ring the other way round, and note what is closed by it."""
        while self.bases[person] != base:
            mate = self.mates[person]
            closed[self.bases[person]] = True
            closed[self.bases[mate]] = True
            self.links[person] = behind
            behind = mate
            person = self.links[mate]

    def way_to(self, person):
        """The even way from a root to a person."""
        way = [person]
        while self.mates[way[-1]] is not None:
            mate = self.mates[way[-1]]
            way.extend([mate, self.links[mate]])
        return way[::-1]

    def reached_evenly(self):
        """The lot of all reached evenly."""
        return tuple(sorted(self.found))

    def reached_oddly(self):
        """The lot of all others whom ways lead to."""
        linked = [person for person, link in enumerate(self.links) if link is not None]
        return tuple([person for person in linked if not self.evenly[person]])


def mates_of(n, plan):
    """For each of n people the partner by a plan, None for who has none."""
    mates = [None for _ in range(n)]
    for u, v in plan:
        mates[u] = v
        mates[v] = u
    return mates


def plan_of(mates):
    """The plan by which people have these partners."""
    return tuple([(u, v) for u, v in enumerate(mates) if v is not None and u < v])


def turn_along(mates, way):
    """Turn the partners along a way from somebody unserved; with an odd number of people the last is given up."""
    mates[way[-1]] = None
    for at in range(1, len(way), 2):
        mates[way[at - 1]] = way[at]
        mates[way[at]] = way[at - 1]


def search_from(web, plan, roots):
    """A way by which a plan grows from some of the roots, unserved people, None if there is none; and the search."""
    forest = Forest(rows_of(web), mates_of(web[0], plan), roots, [True for _ in range(web[0])])
    return (forest.turnable(), forest)


def is_even_way(web, plan, value):
    """Whether any value is an even way by the plan."""
    n, pairs = web
    if not are_unlike_below(n, value) or len(value) % 2 == 0 or value[0] not in unserved(web, plan):
        return False
    steps = [as_pair(value[at - 1], value[at]) for at in range(1, len(value))]
    if not all([pair in pairs for pair in steps]):
        return False
    return all([(pair in plan) == (at % 2 == 1) for at, pair in enumerate(steps)])


def even_way(web, plan, person):
    """None, or some even way that ends with the person."""
    mate = mates_of(web[0], plan)[person]
    if mate is None:
        return (person,)
    # without the person and his pair, an even way to him is a growing way to his partner
    others = tuple([pair for pair in plan if person not in pair])
    way, _ = search_from(without(web, (person,)), others, [mate])
    return None if way is None else tuple(way[::-1]) + (person,)


def grown_plan(web, plan):
    """None, or some plan with one pair more, that serves all whom this one serves, and two more."""
    way, _ = search_from(web, plan, unserved(web, plan))
    if way is None:
        return None
    mates = mates_of(web[0], plan)
    turn_along(mates, way)
    return plan_of(mates)


def largest_plan(web):
    """Some plan with as many pairs as any."""
    rows = rows_of(web)
    mates = [None for _ in rows]
    wanted = [True for _ in rows]
    # from whom nothing grows once, nothing grows later: so each one is tried once
    for person in range(web[0]):
        if mates[person] is None:
            way = Forest(rows, mates, [person], wanted).turnable()
            if way is not None:
                turn_along(mates, way)
    return plan_of(mates)
