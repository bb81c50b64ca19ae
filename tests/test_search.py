"""Promises [19] to [24]: even ways, largest plans, barriers, three parts, whoever is left out."""

import itertools
import random
import unittest

from givesifgets.barriers import best_paper, is_best_paper, odd_parts, spare_number
from givesifgets.plans import is_plan, served, unserved
from givesifgets.search import even_way, grown_plan, is_even_way, largest_plan
from givesifgets.threeparts import paired_rest, plan_without, three_parts
from givesifgets.turns import gain, is_turn, turned
from tests.plain import (ODD_VALUES, Tried, all_plans, all_values_near, all_webs, drawn_web, drawn_webs, lots_of,
                         near_values, only_tuples, people_in, plain_even_ways, plain_odd_parts, plain_parts)

# odd rings on odd rings, rings joined by a pair, and flowers of them
SHAPES = [
    (5, ((0, 1), (0, 4), (1, 2), (2, 3), (3, 4))),
    (9, ((0, 1), (0, 2), (1, 2), (2, 3), (3, 4), (3, 5), (4, 5), (5, 6), (6, 7), (6, 8), (7, 8))[:11]),
    (9, ((0, 1), (0, 8), (1, 2), (1, 3), (2, 3), (3, 4), (4, 5), (4, 6), (5, 6), (6, 7), (7, 8))),
    (8, ((0, 1), (1, 2), (1, 3), (2, 3), (3, 4), (3, 5), (4, 5), (5, 6), (6, 7))),
    (9, ((0, 1), (1, 2), (1, 6), (2, 3), (2, 5), (3, 4), (4, 5), (5, 6), (6, 7), (7, 8))),
    (9, ((0, 3), (0, 4), (1, 5), (1, 6), (2, 7), (2, 8), (3, 4), (5, 6), (7, 8))),
    (7, ((0, 1), (0, 2), (0, 3), (0, 4), (0, 5), (0, 6), (1, 2), (3, 4), (5, 6))),
]


def webs_tried():
    for n in range(6):
        yield from all_webs(n)
    yield from SHAPES
    yield from drawn_webs(41, 250, 6, 9)


class EvenWays(unittest.TestCase):
    def webs(self):
        for n in range(5):
            yield from all_webs(n)
        yield from SHAPES
        yield from drawn_webs(42, 120, 5, 8)

    def test_even_way(self):
        rng = random.Random(43)
        found = 0
        for web in self.webs():
            plans = all_plans(web)
            for plan in plans if len(plans) < 12 else rng.sample(plans, 8):
                ways = plain_even_ways(web, plan)
                lasts = {way[-1] for way in ways}
                for person in range(web[0]):
                    told = even_way(web=web, plan=plan, person=person)
                    if told is None:
                        self.assertNotIn(person, lasts, (web, plan))
                        continue
                    found += len(told) > 3
                    self.assertIn(told, ways)
                    self.assertEqual(told[-1], person)
                    self.assertIs(is_even_way(web, plan, told), True)
                    if len(told) > 1:
                        self.turned_by(web, plan, told)
        self.assertGreater(found, 100)

    def turned_by(self, web, plan, way):
        turn = ("way", way)
        self.assertIs(is_turn(web, plan, turn), True)
        self.assertEqual(gain(plan, turn), 0)
        before, behind = people_in(plan), people_in(turned(web, plan, turn))
        self.assertEqual((behind - before, before - behind), ({way[0]}, {way[-1]}))

    def test_is_even_way(self):
        rng = random.Random(44)
        for web in list(all_webs(4))[::2] + list(drawn_webs(45, 30, 5, 6)):
            for plan in rng.sample(all_plans(web), min(4, len(all_plans(web)))):
                ways = plain_even_ways(web, plan)
                good = {repr(way) for way in ways}
                for way in ways:
                    self.assertIs(is_even_way(web=web, plan=plan, value=way), True)
                for size in range(4):
                    for value in itertools.product(range(web[0]), repeat=size):
                        self.assertIs(is_even_way(web, plan, value), value in ways)
                for value in all_values_near(ways[-5:]):
                    self.assertIs(is_even_way(web, plan, value), repr(value) in good, (web, plan, value))


class Largest(unittest.TestCase):
    def test_largest_plan_of_every_small_web(self):
        for web in webs_tried():
            told = largest_plan(web=web)
            tried = Tried(web)
            self.assertIn(told, tried.largest)
            self.assertEqual(largest_plan(web), told)

    def test_six_people(self):
        """All webs of six people: the size, and the three parts, by a quick trying of all plans."""
        pairs = list(itertools.combinations(range(6), 2))
        bits = {pair: 1 << at for at, pair in enumerate(pairs)}
        plans = [(sum(bits[pair] for pair in plan), frozenset(people_in(plan)), len(plan))
                 for plan in all_plans((6, tuple(pairs)))]
        for mask in range(1 << 15):
            web = (6, tuple(pair for pair in pairs if mask & bits[pair]))
            fitting = [(people, size) for bit, people, size in plans if bit & mask == bit]
            most = max(size for _, size in fitting)
            told = largest_plan(web)
            self.assertTrue(len(told) == most and is_plan(web, told), web)
            free = tuple(p for p in range(6) if any(p not in people for people, size in fitting if size == most))
            near = {p for pair in web[1] for p in pair if set(pair) & set(free)} - set(free)
            rest = tuple(p for p in range(6) if p not in free and p not in near)
            self.assertEqual(three_parts(web), (free, tuple(sorted(near)), rest))

    def test_grown_plan(self):
        rng = random.Random(46)
        for web in webs_tried():
            tried = Tried(web)
            plans = tried.plans
            for plan in plans if len(plans) < 12 else rng.sample(plans, 8) + [()]:
                told = grown_plan(web=web, plan=plan)
                if len(plan) == tried.size:
                    self.assertIsNone(told)
                else:
                    self.assertIn(told, plans)
                    self.assertEqual(len(told), len(plan) + 1)
                    self.assertLess(people_in(plan), people_in(told))

    def test_great_webs(self):
        rng = random.Random(47)
        for n, share in ((40, 0.04), (40, 0.08), (40, 0.3), (60, 0.03), (60, 0.05), (60, 0.2), (60, 1.1), (59, 1.1)):
            web = drawn_web(rng, n, share)
            self.assertIs(is_best_paper(web, best_paper(web)), True)
            plan = ()
            for _ in range(len(largest_plan(web))):
                plan = grown_plan(web, plan)
            self.assertIsNone(grown_plan(web, plan))
            self.assertIs(is_plan(web, plan), True)
            free, near, firm = three_parts(web)
            self.assertEqual(sorted(free + near + firm), list(range(n)))
            for person in range(0, n, 5):
                self.assertEqual(plan_without(web, person) is None, person not in free)
                self.assertEqual(even_way(web, plan, person) is None, person not in free)
        # triangles that hang on triangles, and on few who could help out
        hanging = tuple(sorted({tuple(sorted((3 * k + a, 3 * k + b))) for k in range(18) for a, b in ((0, 1), (0, 2), (1, 2))}
                               | {(3 * k, 54 + k % 5) for k in range(18)}))
        web = (60, hanging)
        self.assertEqual(three_parts(web), (tuple(range(54)) + (59,), (54, 55, 56, 57, 58), ()))
        self.assertEqual(len(largest_plan(web)), 18 + 5)


class Barriers(unittest.TestCase):
    def test_odd_parts(self):
        for web in itertools.chain(all_webs(4), SHAPES, drawn_webs(48, 60, 5, 9)):
            for lot in lots_of(web[0]):
                told = odd_parts(web=web, lot=lot)
                self.assertEqual(told, plain_odd_parts(web, lot))
                self.assertTrue(only_tuples(told))
                self.assertEqual(spare_number(web=web, lot=lot), len(told) - len(lot))

    def test_greatest_spare_number(self):
        for web in webs_tried():
            left_out = web[0] - 2 * Tried(web).size
            numbers = {lot: spare_number(web, lot) for lot in lots_of(web[0])}
            self.assertEqual(max(numbers.values()), left_out)
            self.assertEqual(numbers[three_parts(web)[1]], left_out)

    def test_best_paper(self):
        for web in webs_tried():
            plan, lot = told = best_paper(web=web)
            self.assertTrue(only_tuples(told))
            self.assertIn(plan, Tried(web).largest)
            self.assertEqual(lot, three_parts(web)[1])
            self.assertIs(is_best_paper(web=web, value=told), True)

    def test_is_best_paper(self):
        for web in list(all_webs(4))[::3] + SHAPES[:1] + list(drawn_webs(49, 15, 5, 6)):
            tried = Tried(web)
            lots = lots_of(web[0])
            good = set()
            for plan, lot in itertools.product(tried.plans, lots):
                holds = web[0] - 2 * len(plan) == len(plain_odd_parts(web, lot)) - len(lot)
                self.assertIs(is_best_paper(web, (plan, lot)), holds)
                if holds:
                    self.assertEqual(len(plan), tried.size)
                    good.add(repr((plan, lot)))
            for value in all_values_near([best_paper(web)]):
                self.assertIs(is_best_paper(web, value), repr(value) in good, (web, value))


class ThreeParts(unittest.TestCase):
    def test_three_parts(self):
        for web in webs_tried():
            told = three_parts(web=web)
            self.assertEqual(told, Tried(web).three(), web)
            self.assertTrue(only_tuples(told))

    def test_facts(self):
        for web in webs_tried():
            free, near, firm = three_parts(web)
            parts = [part for part in plain_parts(web, near) if set(part) & set(free)]
            self.assertTrue(all(len(part) % 2 and set(part) <= set(free) for part in parts))
            self.assertEqual(plain_odd_parts(web, near), tuple(parts))
            for plan in Tried(web).largest[:6]:
                mates = {u: v for pair in plan for u, v in (pair, pair[::-1])}
                self.assertTrue(all(mates[person] in firm for person in firm))
                homes = [[part for part in parts if mates[person] in part] for person in near]
                self.assertTrue(all(len(home) == 1 for home in homes))
                self.assertEqual(len({home[0] for home in homes}), len(near))
                for part in parts:
                    self.assertEqual(len([person for person in part if mates.get(person) not in part]), 1)
                self.assertTrue(all(even_way(web, plan, person) for person in free))

    def test_plan_without(self):
        for web in webs_tried():
            tried = Tried(web)
            for person in range(web[0]):
                told = plan_without(web=web, person=person)
                if told is None:
                    self.assertNotIn(person, tried.free())
                else:
                    self.assertIn(told, tried.largest)
                    self.assertIn(person, unserved(web, told))

    def test_paired_rest(self):
        for web in webs_tried():
            free, near, _ = three_parts(web)
            for person in free:
                part = [part for part in plain_parts(web, near) if person in part][0]
                told = paired_rest(web=web, person=person)
                self.assertIs(is_plan(web, told), True)
                self.assertEqual(set(served(told)), set(part) - {person})

    def test_by_hand(self):
        self.assertEqual(three_parts((0, ())), ((), (), ()))
        self.assertEqual(three_parts((2, ())), ((0, 1), (), ()))
        self.assertEqual(three_parts((2, ((0, 1),))), ((), (), (0, 1)))
        self.assertEqual(three_parts((4, ((0, 1), (0, 2), (0, 3)))), ((1, 2, 3), (0,), ()))
        self.assertEqual((largest_plan((0, ())), grown_plan((0, ()), ()), best_paper((0, ()))), ((), None, ((), ())))
        self.assertEqual((odd_parts((0, ()), ()), spare_number((3, ()), (0, 1))), ((), -1))
        self.assertEqual(paired_rest((3, ()), 1), ())
        for value in ODD_VALUES + list(near_values(((), ()))):
            told = isinstance(value, tuple) and len(value) == 2 and value == ((), ())
            self.assertIs(is_best_paper((0, ()), value), told, value)
