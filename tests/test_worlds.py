"""Promises [59] and [63]: worlds, and who and what is left in them."""

import itertools
import random
import unittest

from givesifgets.deeds import can_do, do_all, do_deed, ring_deed
from givesifgets.registry import is_registry, registry_of
from givesifgets.webs import pair_web
from givesifgets.worlds import givers_left, is_world, links_left, people_left, start_world, web_left
from tests.plain import ODD_VALUES, all_plans, all_values_near, only_tuples
from tests.plainworlds import (drawn_registry, drawn_run, has_friends, link_fits, owner_of, plain_is_world, plain_start,
                               plain_tie, plain_ties, ring_fits, whole)

REGISTRY = registry_of([[0], [0]], [0, 0, 0], [(0, 0), (0, 1), (1, 2), (0, None)], [(0, 2)])


def drawn_worlds(seed, many, longest=12):
    rng = random.Random(seed)
    for _ in range(many):
        _, worlds = drawn_run(rng, plain_start(drawn_registry(rng)), rng.randint(0, longest))
        yield worlds[-1]


def great_registry():
    """Sixty people, each with a friend who may give to all of the next kinds, and sixty free friends."""
    fits = [[(kind + step) % 12 for step in range(1, 5)] for kind in range(12)]
    friends = [((7 * person) % 12, person) for person in range(60)] + [(kind % 12, None) for kind in range(60)]
    return registry_of(fits, [person % 12 for person in range(60)], friends, [])


def plain_left(world):
    return [person for person in range(len(world[1][1])) if person not in world[2] + world[5]]


class Worlds(unittest.TestCase):
    def test_start_world(self):
        rng = random.Random(591)
        for _ in range(50):
            registry = drawn_registry(rng)
            told = start_world(registry=registry)
            self.assertEqual(repr(told), repr((0, registry, (), (), (), ())))
            self.assertIs(is_world(told), True)

    def test_worlds_behind_rows_of_deeds(self):
        rng = random.Random(592)
        for _ in range(120):
            _, worlds = drawn_run(rng, plain_start(drawn_registry(rng)), 12)
            for world in worlds:
                self.assertIs(is_world(value=world), True)

    def test_values_near(self):
        rng = random.Random(593)
        seen = {True: 0, False: 0}
        for world in drawn_worlds(594, 25, 9):
            near = list(all_values_near([world[2:]]))
            values = [world[:2] + value if type(value) is tuple else value for value in near]
            # the registry is looked at by its own tests: here some values near it are enough
            values += [world[:1] + (value,) + world[2:] for value in rng.sample(list(all_values_near([world[1]])), 60)]
            values += [(day,) + world[1:] for day in ODD_VALUES + [world[0] - 1, world[0] + 1]]
            values += [world, list(world)] + [world[:at] + (list(world[at]),) + world[at + 1:] for at in range(1, 6)]
            for value in values:
                wanted = plain_is_world(is_registry, value)
                self.assertIs(is_world(value), wanted, value)
                seen[wanted] += 1
        self.assertGreater(min(seen.values()), 200)
        for odd in ODD_VALUES:
            self.assertIs(is_world(odd), False)

    def test_every_lot_and_friends(self):
        """Whoever got, whichever friends gave, whoever is due: all of them, for one registry."""
        found = 0
        lots = [lot for size in range(4) for lot in itertools.combinations(range(3), size)]
        friends = [lot for size in range(4) for lot in itertools.combinations(range(4), size)]
        for got, gave, due in itertools.product(lots, friends, lots):
            value = (2, REGISTRY, got, gave, tuple((person, person % 3) for person in due), ())
            wanted = plain_is_world(is_registry, value)
            self.assertIs(is_world(value), wanted, value)
            found += wanted
        self.assertGreater(found, 5)

    def test_what_is_no_world(self):
        world = do_all(start_world(REGISTRY), [("link", (3, 2)), ("day",)])
        self.assertEqual(world, (1, REGISTRY, (2,), (3,), ((2, 0),), ()))
        self.assertIs(is_world(world), True)
        for value in (
                (1, REGISTRY, (2,), (), ((2, 0),), ()), (1, REGISTRY, (), (3,), (), ()), (1, REGISTRY, (2,), (3,), (), ()),
                (1, REGISTRY, (2,), (3,), ((2, 2),), ()), (1, REGISTRY, (2,), (3,), ((2, 0), (2, 1)), ()),
                (1, REGISTRY, (2,), (0,), ((2, 0),), ()), (1, REGISTRY, (2,), (3,), ((1, 0),), ()),
                (1, REGISTRY, (2,), (3,), ((2, 0),), (3,)), (1, REGISTRY, [2], (3,), ((2, 0),), ()),
                (True, REGISTRY, (2,), (3,), ((2, 0),), ()), (1, REGISTRY, (2,), (3,), ((2, False),), ()),
                (1, REGISTRY, (2,), (3,), ([2, 0],), ()), (-1, REGISTRY, (), (), (), ()), (0, REGISTRY, (), (), ()),
                (0, REGISTRY, (), (), (), (), ()), (0, list(REGISTRY), (), (), (), ()), (0, None, (), (), (), ())):
            self.assertIs(is_world(value), False, value)
        self.assertIs(is_world((1, REGISTRY, (2,), (3,), ((2, 1),), (0, 2))), True)
        self.assertIs(is_world((10 ** 999, REGISTRY, (2,), (3,), ((2, 10 ** 999),), ())), True)
        # two friends of one person gave
        twice = registry_of([[0]], [0, 0], [(0, 0), (0, 0), (0, None)], [])
        self.assertIs(is_world((0, twice, (0, 1), (0, 1), (), ())), False)
        self.assertIs(is_world((0, twice, (0, 1), (0, 2), (), ())), True)
        # somebody without friends is never due
        self.assertIs(is_world((0, twice, (1,), (2,), (), ())), True)
        self.assertIs(is_world((0, twice, (1,), (2,), ((1, 0),), ())), False)


class Left(unittest.TestCase):
    def test_who_and_what_is_left(self):
        links = 0
        for world in drawn_worlds(595, 450, 12):
            registry, gave, due, away = world[1], world[3], world[4], world[5]
            left = plain_left(world)
            self.assertEqual(people_left(world=world), tuple(left))
            n, pairs = pair_web(registry)
            self.assertEqual(web_left(world=world), (n, tuple((u, v) for u, v in pairs if u in left and v in left)))
            givers = []
            for friend in range(len(registry[2])):
                owner = owner_of(registry, friend)
                if owner is None and friend not in gave or owner in dict(due) and owner not in away:
                    givers.append(friend)
            self.assertEqual(givers_left(world=world), tuple(givers))
            told = links_left(world=world)
            self.assertEqual(told, tuple(tie for tie in plain_ties(registry) if link_fits(world, tie)))
            self.assertEqual(told, tuple(tie for tie in plain_ties(registry) if can_do(world, ("link", tie))))
            links += len(told)
            # of people who are left no friend gave
            self.assertEqual([friend for friend in gave if owner_of(registry, friend) in left], [])
            self.assertTrue(only_tuples((people_left(world), web_left(world), givers_left(world), told)))
        self.assertGreater(links, 300)

    def plain_ring_deed(self, world, people):
        registry = world[1]
        if type(people) is not tuple or not all(whole(person, 0, len(registry[1])) for person in people):
            return None
        ties = []
        for at, owner in enumerate(people):
            person = people[(at + 1) % len(people)]
            able = [friend for friend in range(len(registry[2])) if owner_of(registry, friend) == owner and plain_tie(
                registry, friend, person)]
            if not able:
                return None
            ties.append((able[0], person))
        return ("ring", tuple(ties)) if ring_fits(world, tuple(ties)) else None

    def test_ring_deed(self):
        done = 0
        for world in drawn_worlds(596, 120, 6):
            n = len(world[1][1])
            rows = [row for size in range(4) for row in itertools.product(range(min(n, 4)), repeat=size)]
            for people in rows:
                told = ring_deed(world=world, people=people)
                self.assertEqual(told, self.plain_ring_deed(world, people))
                if told is not None:
                    done += 1
                    self.assertIs(can_do(world, told), True)
                    self.assertEqual([owner_of(world[1], friend) for friend, _ in told[1]], list(people))
                    self.assertEqual(tuple(person for _, person in told[1]), people[1:] + people[:1])
        self.assertGreater(done, 100)

    def test_ring_deed_of_any_value(self):
        for world in drawn_worlds(597, 10, 4):
            for value in list(all_values_near([(0, 1), (0, 1, 2)])) + [(0, 1) * 30]:
                self.assertEqual(ring_deed(world, value), self.plain_ring_deed(world, value), value)
        self.assertIsNone(ring_deed(start_world(REGISTRY), [0, 1]))
        self.assertIsNone(ring_deed(start_world(REGISTRY), (False, True)))
        self.assertEqual(ring_deed(start_world(REGISTRY), (1, 0)), ("ring", ((1, 0), (0, 1))))

    def test_pairs_of_the_web_that_is_left(self):
        """For each pair there is a ring of two; a plan's can be done in any order, on any days."""
        rng = random.Random(598)
        longest = 0
        for world in drawn_worlds(599, 300, 2):
            web = web_left(world)
            for pair in web[1]:
                self.assertIsNotNone(ring_deed(world, pair))
                self.assertIsNotNone(ring_deed(world, pair[::-1]))
            for plan in rng.sample(all_plans(web), min(4, len(all_plans(web)))):
                now, pairs = world, list(plan)
                rng.shuffle(pairs)
                for pair in pairs:
                    for _ in range(rng.randint(0, 2)):
                        now = do_deed(now, ("day",))
                    now = do_deed(now, ring_deed(now, pair))
                self.assertEqual(len(now[2]), len(world[2]) + 2 * len(plan))
                longest = max(longest, len(plan))
        self.assertGreater(longest, 2)

    def test_one_that_falls_takes_no_other_with_it(self):
        rng = random.Random(600)
        tried = 0
        for world in drawn_worlds(601, 300, 3):
            web = web_left(world)
            plan = max(all_plans(web), key=len)
            if len(plan) > 1:
                gone = rng.choice(plan)
                now = do_deed(world, ("away", rng.choice(gone)))
                for pair in plan:
                    self.assertEqual(ring_deed(now, pair) is None, pair == gone)
                    if pair != gone:
                        now = do_deed(now, ring_deed(now, pair))
                tried += 1
        self.assertGreater(tried, 50)

    def test_sixty_people(self):
        registry = great_registry()
        self.assertEqual(len(registry[1]), 60)
        world = start_world(registry)
        self.assertEqual(people_left(world), tuple(range(60)))
        self.assertEqual(web_left(world), pair_web(registry))
        self.assertGreater(len(web_left(world)[1]), 50)
        self.assertEqual(givers_left(world), tuple(range(60, 120)))
        later = do_all(world, [("away", person) for person in range(30)] + [("day",)] * 3)
        self.assertEqual(people_left(later), tuple(range(30, 60)))
        self.assertIs(is_world(later), True)
        links = [("link", links_left(later)[0])]
        later = do_all(later, links)
        self.assertEqual(has_friends(registry, later[2][0]), later[4] == ((later[2][0], 3),))
        while links_left(later):
            later = do_deed(later, ("link", links_left(later)[-1]))
        self.assertIs(is_world(later), True)
        self.assertGreater(len(later[2]), 20)
