"""Promises [16] to [18]: strands, growing ways, ends and exchanges."""

import itertools
import random
import unittest

from givesifgets.errors import InvalidQuestion
from givesifgets.plans import is_plan
from givesifgets.search import largest_plan
from givesifgets.strands import ends, exchanged, growing_ways, strand_at, strands
from givesifgets.turns import gain, is_growing, is_turn, turned
from tests.plain import ODD_VALUES, all_plans, all_webs, drawn_web, drawn_webs, only_tuples, people_in


def plain_strands(one, other):
    """The strands, each pair's people being led together until nothing changes."""
    pairs = set(one) ^ set(other)
    groups = []
    for pair in pairs:
        near = [group for group in groups if any(set(pair) & set(q) for q in group)]
        groups = [group for group in groups if group not in near] + [[pair] + [q for group in near for q in group]]
    turns = []
    for group in groups:
        people = sorted({person for pair in group for person in pair})
        degree = {person: sum(person in pair for pair in group) for person in people}
        lone = [person for person in people if degree[person] == 1]
        row = [lone[0] if lone else people[0]]
        while len(row) < len(people):
            row.append(min(u + v - row[-1] for u, v in group if row[-1] in (u, v) and u + v - row[-1] not in row))
        turns.append(("way" if lone else "ring", tuple(row)))
    return tuple(sorted(turns))


class Strands(unittest.TestCase):
    def cases(self):
        rng = random.Random(31)
        for web in all_webs(4):
            plans = all_plans(web)
            for one, other in itertools.product(plans, plans):
                yield web, one, other
        whole = (6, tuple(itertools.combinations(range(6), 2)))
        plans = all_plans(whole)
        for one, other in itertools.product(plans, plans[::3]):
            yield whole, one, other
        for web in drawn_webs(32, 150, 6, 9):
            plans = all_plans(web)
            for _ in range(6):
                yield web, rng.choice(plans), rng.choice(plans)
        for _ in range(30):
            web = drawn_web(rng, 60, 0.2)
            yield web, self.drawn_plan(rng, web), self.drawn_plan(rng, web)

    def drawn_plan(self, rng, web):
        plan, helped = [], set()
        for pair in rng.sample(web[1], len(web[1])):
            if not set(pair) & helped and rng.random() < 0.9:
                plan.append(pair)
                helped |= set(pair)
        return tuple(sorted(plan))

    def test_strands(self):
        rng = random.Random(33)
        rings = 0
        for web, one, other in self.cases():
            told = strands(one=one, other=other)
            self.assertEqual(told, plain_strands(one, other))
            self.assertTrue(only_tuples(told))
            rings += any(word == "ring" for word, _ in told)
            people = [person for _, row in told for person in row]
            self.assertEqual(len(people), len(set(people)))
            for strand in told:
                self.assertIs(is_turn(web, one, strand), True)
                self.assertIs(is_turn(web, other, strand), True)
            self.assertEqual(sum(gain(one, strand) for strand in told), len(other) - len(one))
            some = rng.sample(told, rng.randint(0, len(told)))
            plan = one
            for strand in some:
                plan = turned(web, plan, strand)
            self.assertIs(is_plan(web, plan), True)
            here = {person for _, row in some for person in row}
            mixed = [pair for pair in other if set(pair) & here] + [pair for pair in one if not set(pair) & here]
            self.assertEqual(plan, tuple(sorted(set(mixed))))
            for strand in rng.sample(told, len(told)):
                plan = plan if strand in some else turned(web, plan, strand)
            self.assertEqual(plan, other)
            self.assertEqual(strands(other, one), told)
        self.assertGreater(rings, 30)

    def test_strand_at(self):
        for web, one, other in self.cases():
            told = strands(one, other)
            for person in range(0, web[0], 1 if web[0] < 10 else 7):
                here = [strand for strand in told if person in strand[1]]
                self.assertEqual(strand_at(one=one, other=other, person=person), here[0] if here else None)

    def test_growing_ways(self):
        for web, one, other in self.cases():
            told = growing_ways(one=one, other=other)
            self.assertEqual(told, tuple(s for s in plain_strands(one, other) if is_growing(web, one, s)))
            more = len(other) - len(one)
            if more > 0:
                self.assertGreaterEqual(len(told), more)
                least = min(len(people) // 2 for _, people in told)
                self.assertLessEqual(2 * least - 1, 2 * (len(one) // more) + 1)

    def test_ends(self):
        for _, one, other in self.cases():
            told = ends(one=one, other=other)
            ways = [people for word, people in plain_strands(one, other) if word == "way"]
            self.assertEqual(told, tuple(sorted((people[0], people[-1]) for people in ways)))
            self.assertTrue(only_tuples(told))
            everyone = sorted(person for pair in told for person in pair)
            self.assertEqual(everyone, sorted(people_in(one) ^ people_in(other)))
            for first, last in told:
                self.assertLess(first, last)
                alike = (first in people_in(one)) == (last in people_in(one))
                self.assertEqual(gain(one, strand_at(one, other, first)) != 0, alike)

    def test_exchanged(self):
        gone = 0
        for web, one, other in self.cases():
            for person in range(web[0]):
                if person not in people_in(other) or person in people_in(one):
                    self.refused(one, other, person)
                    continue
                plan, lost = exchanged(one=one, other=other, person=person)
                self.assertIs(is_plan(web, plan), True)
                self.assertEqual(plan, turned(web, one, strand_at(one, other, person)))
                self.assertIn(person, people_in(plan))
                given_up = people_in(one) - people_in(plan)
                self.assertEqual(given_up, set() if lost is None else {lost})
                if lost is not None:
                    gone += 1
                    self.assertNotIn(lost, people_in(other))
        self.assertGreater(gone, 100)

    def refused(self, one, other, person):
        with self.assertRaises(InvalidQuestion) as caught:
            exchanged(one, other, person)
        self.assertEqual(caught.exception.at, 2)

    def test_persons_that_are_none(self):
        one, other = ((2, 3),), ((0, 1), (2, 3))
        for person in ODD_VALUES:
            if type(person) is int and person in (0, 1):
                self.assertEqual(exchanged(one, other, person), (((0, 1), (2, 3)), None))
            else:
                self.refused(one, other, person)

    def test_equal_and_empty_ones(self):
        self.assertEqual((strands((), ()), ends((), ()), growing_ways((), ())), ((), (), ()))
        plan = ((0, 3), (1, 2))
        self.assertEqual((strands(plan, plan), strand_at(plan, plan, 0)), ((), None))
        self.assertEqual(strands(plan, ((0, 1), (2, 3))), (("ring", (0, 1, 2, 3)),))
        self.assertEqual(strands(((1, 4),), ()), (("way", (1, 4)),))
        # a way in which the least person is not an end
        self.assertEqual(strands(((0, 3),), ((0, 2),)), (("way", (2, 0, 3)),))

    def test_largest_exactly_if_none_is_growing(self):
        from tests.plain import plain_turns
        for web in itertools.chain(all_webs(4), drawn_webs(34, 25, 5, 6)):
            most = len(largest_plan(web))
            for plan in all_plans(web):
                growing = [turn for turn in plain_turns(web, plan) if is_growing(web, plan, turn)]
                self.assertEqual(growing == [], len(plan) == most)
