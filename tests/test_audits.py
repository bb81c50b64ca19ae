"""Promises [68] to [71]: reasons, pairs and ties that would help, fair plans."""

import itertools
import random
import unittest

from givesifgets.audits import is_reason, why_not
from givesifgets.errors import InvalidPlan, InvalidQuestion
from givesifgets.fairness import is_fair, wronged
from givesifgets.helping import helping_pairs, helping_ties
from givesifgets.kept import kept_lot, kept_plan
from givesifgets.lotbarriers import closed_parts
from givesifgets.plans import is_plan, serves
from givesifgets.webs import pair_web
from tests.plain import (ODD_VALUES, Tried, all_plans, all_values_near, all_webs, drawn_order, drawn_web, drawn_webs, joined,
                         lots_of, near_values, only_tuples, people_in, plain_closed, plain_parts)
from tests.plainworlds import drawn_registry, plain_tie

SEVEN = (7, ((0, 1), (0, 2), (1, 2), (2, 3), (3, 4), (3, 5), (5, 6)))


def odd_webs():
    """Webs with rings of odd numbers of people, which share few who could help them out."""
    yield SEVEN
    for n in (3, 5, 7):
        ring = tuple(sorted((min(u, (u + 1) % n), max(u, (u + 1) % n)) for u in range(n)))
        yield (n, ring)
        yield (n + 1, tuple(sorted(ring + ((0, n),))))
    yield (7, ((0, 1), (0, 2), (0, 6), (1, 2), (3, 4), (3, 5), (3, 6), (4, 5)))
    yield (8, ((0, 1), (0, 2), (0, 6), (1, 2), (3, 4), (3, 5), (3, 6), (4, 5), (6, 7)))


def tried_webs(seed, many=60, most=7):
    rng = random.Random(seed)
    for n in range(5):
        for web in all_webs(n):
            if n < 4 or rng.random() < 0.4:
                yield web
    yield from odd_webs()
    yield from drawn_webs(seed + 1, many, 5, most)


def cases(seed, many=60, most=7):
    """(tried web, order, person, lot of those ahead) for each person who is not kept."""
    rng = random.Random(seed)
    for web in tried_webs(seed, many, most):
        tried = Tried(web)
        for order in {tuple(range(web[0])), drawn_order(rng, web[0]), drawn_order(rng, web[0])}:
            kept = tried.kept(order)
            for person in range(web[0]):
                if person not in kept:
                    ahead = [other for other in order[:order.index(person)] if other in kept]
                    yield tried, order, person, tuple(sorted(ahead))


class Reasons(unittest.TestCase):
    def plain_why_not(self, tried, person, ahead):
        could = [person] + [other for other in ahead if tried.servable([q for q in ahead if q != other] + [person])]
        few = tuple(q for q in range(tried.n) if q not in could and any(joined(tried.web, p, q) for p in could))
        groups = tuple(part for part in plain_parts(tried.web, few) if set(part) & set(could))
        self.assertEqual(sorted(could), sorted(q for part in groups for q in part))
        return (groups, few)

    def plain_is_reason(self, web, lot, value):
        if type(value) is not tuple or len(value) != 2 or type(value[0]) is not tuple:
            return False
        known = {repr(thing) for thing in lots_of(web[0])}
        if not all(repr(group) in known for group in value[0]) or repr(value[1]) not in known:
            return False
        parts = plain_closed(web, lot, value[1])
        return all(group in parts for group in value[0]) and len(set(value[0])) == len(value[0]) > len(value[1])

    def test_why_not(self):
        many, several = 0, 0
        for tried, order, person, ahead in cases(681, 150):
            told = why_not(web=tried.web, order=order, person=person)
            self.assertTrue(type(told) is tuple and only_tuples(told))
            groups, few = told
            self.assertEqual(told, self.plain_why_not(tried, person, ahead))
            # one group more than few, each of an odd number of people, nobody in them but him and people ahead
            self.assertEqual(len(groups), len(few) + 1)
            self.assertEqual([group for group in groups if len(group) % 2 == 0], [])
            self.assertLessEqual({other for group in groups for other in group}, set(ahead) | {person})
            self.assertIs(is_reason(web=tried.web, order=order, person=person, value=told), True)
            for group in groups:
                for one in group:
                    outside = {other for other in range(tried.n) if joined(tried.web, one, other)} - set(group)
                    self.assertLessEqual(outside, set(few))
            many += 1
            several += len(groups) > 1 and max(map(len, groups)) > 1
        self.assertGreater(many, 200)
        self.assertGreater(several, 10)

    def test_values_near(self):
        rng = random.Random(682)
        seen = {True: 0, False: 0}
        every = list(cases(683, 30))
        for tried, order, person, ahead in rng.sample(every, 40) + [case for case in every if case[0].web == SEVEN]:
            lot = tuple(sorted(ahead + (person,)))
            told = why_not(tried.web, order, person)
            groups, few = told
            near = [(groups[::-1], few), (groups[:-1], few), (groups + groups[:1], few), (groups, few + few), (groups, ()),
                    (groups[1:], few[1:]), (groups, tuple(range(tried.n))), (list(groups), few), [groups, few],
                    (groups + ((),), few), (tuple(map(list, groups)), few)]
            for value in near + rng.sample(list(near_values(told)) * 3, 60) + ODD_VALUES + [told]:
                wanted = self.plain_is_reason(tried.web, lot, value)
                self.assertIs(is_reason(tried.web, order, person, value), wanted, (tried.web, order, person, value))
                seen[wanted] += 1
        self.assertGreater(min(seen.values()), 40)

    def test_reasons_other_than_the_told_one(self):
        """All pairs of some of the closed parts and a lot, for small webs."""
        others = 0
        for tried, order, person, ahead in cases(684, 15, 6):
            lot = tuple(sorted(ahead + (person,)))
            told = why_not(tried.web, order, person)
            for few in lots_of(tried.n):
                parts = closed_parts(tried.web, lot, few)
                for size in range(len(parts) + 1):
                    for groups in itertools.permutations(parts, size):
                        wanted = len(groups) > len(few)
                        self.assertIs(is_reason(tried.web, order, person, (groups, few)), wanted)
                        others += wanted and (groups, few) != told
        self.assertGreater(others, 100)
        # in other orders, and with more groups than are needed
        web, order = (4, ()), (0, 1, 2, 3)
        self.assertEqual(why_not(web, order, 2), (((2,),), ()))
        self.assertIs(is_reason((6, ((0, 4), (1, 4), (2, 4), (3, 4))), (0, 1, 2, 3, 4, 5), 1, (((1,), (0,)), (4,))), True)
        self.assertIs(is_reason((6, ((0, 4), (1, 4), (2, 4), (3, 4))), (0, 1, 2, 3, 4, 5), 1, (((0,), (1,)), (4,))), True)
        # nobody who stands behind, or ahead and is not kept, counts
        self.assertIs(is_reason((6, ((0, 4), (1, 4), (2, 4), (3, 4))), (0, 1, 2, 3, 4, 5), 1, (((1,), (2,)), (4,))), False)

    def test_who_is_no_such_person(self):
        for web, order in ((SEVEN, (0, 1, 2, 3, 5, 6, 4)), (SEVEN, (6, 5, 4, 3, 2, 1, 0)), ((0, ()), ()), ((2, ((0, 1),)), (1, 0))):
            kept = kept_lot(web, order)
            for person in list(range(-1, web[0] + 2)) + ODD_VALUES:
                if type(person) is int and 0 <= person < web[0] and person not in kept:
                    continue
                for asked in (lambda: why_not(web, order, person), lambda: is_reason(web, order, person, ((), ())),
                              lambda: helping_pairs(web, order, person)):
                    with self.assertRaises(InvalidQuestion) as caught:
                        asked()
                    self.assertEqual(caught.exception.at, 2)

    def test_forty_people(self):
        rng = random.Random(685)
        asked = 0
        for share in (0.03, 0.05, 0.07, 0.3):
            web, order = drawn_web(rng, 40, share), drawn_order(rng, 40)
            kept = kept_lot(web, order)
            for person in order:
                if person not in kept:
                    told = why_not(web, order, person)
                    self.assertIs(is_reason(web, order, person, told), True)
                    self.assertEqual(len(told[0]), len(told[1]) + 1)
                    asked += 1
        self.assertGreater(asked, 20)
        # thirteen rings of three, and one who could help a single one out
        pairs = [pair for at in range(0, 39, 3) for pair in ((at, at + 1), (at, at + 2), (at + 1, at + 2), (at, 39))]
        web, order = (40, tuple(sorted(pairs))), tuple(range(40))
        left = [person for person in order if person not in kept_lot(web, order)]
        self.assertEqual(len(left), 12)
        groups, few = why_not(web, order, left[-1])
        self.assertEqual((groups, few), (((0, 1, 2), (36, 37, 38)), (39,)))


class Helping(unittest.TestCase):
    def plain_pairs(self, tried, order, person, ahead):
        found = []
        for pair in itertools.combinations(range(tried.n), 2):
            if pair not in tried.web[1]:
                more = Tried((tried.n, tuple(sorted(tried.web[1] + (pair,))))).kept(order)
                if set(ahead) | {person} <= set(more):
                    found.append(pair)
                    before = tried.kept(order)
                    # two more are kept, or somebody behind him goes
                    gone = [other for other in before if other not in more]
                    self.assertTrue(len(more) == len(before) + 2 or all(
                        order.index(other) > order.index(person) for other in gone))
        return tuple(found)

    def test_helping_pairs(self):
        many, nobody = 0, 0
        for tried, order, person, ahead in cases(691, 60, 7):
            told = helping_pairs(web=tried.web, order=order, person=person)
            self.assertTrue(type(told) is tuple and only_tuples(told))
            self.assertEqual(told, self.plain_pairs(tried, order, person, ahead))
            groups, few = why_not(tried.web, order, person)
            for pair in told:
                names = [next((at for at, group in enumerate(groups) if end in group), None) for end in pair]
                self.assertTrue(names[0] != names[1] and not set(pair) & set(few))
            many += len(told)
            nobody += told == ()
        self.assertGreater(many, 500)
        self.assertGreater(nobody, 5)
        self.assertEqual(helping_pairs((2, ()), (0, 1), 0), ((0, 1),))
        self.assertEqual(helping_pairs((1, ()), (0,), 0), ())

    def plain_ties(self, registry, order, person):
        """Each tie tried one by one: the web with it, as the arcs tell."""
        n, friends = len(registry[1]), registry[2]
        arcs = {(owner, other) for at, (_, owner) in enumerate(friends) for other in range(n)
                if owner is not None and plain_tie(registry, at, other)}
        web = (n, tuple((u, v) for u, v in itertools.combinations(range(n), 2) if {(u, v), (v, u)} <= arcs))
        self.assertEqual(web, pair_web(registry))
        found = []
        helping = helping_pairs(web, order, person)
        for at, (_, owner) in enumerate(friends):
            for other in range(n):
                if owner is not None and owner != other and not plain_tie(registry, at, other):
                    more = arcs | {(owner, other)}
                    pair = (min(owner, other), max(owner, other))
                    if {pair, pair[::-1]} <= more and pair not in web[1] and pair in helping:
                        found.append((at, other))
        return tuple(found)

    def test_helping_ties(self):
        rng = random.Random(692)
        many, barred, kinds = 0, 0, 0
        for _ in range(300):
            registry = drawn_registry(rng)
            n = len(registry[1])
            order = drawn_order(rng, n)
            kept = kept_lot(pair_web(registry), order)
            for person in range(n):
                if person in kept:
                    with self.assertRaises(InvalidQuestion) as caught:
                        helping_ties(registry, order, person)
                    self.assertEqual(caught.exception.at, 2)
                    continue
                told = helping_ties(registry=registry, order=order, person=person)
                self.assertTrue(type(told) is tuple and only_tuples(told))
                self.assertEqual(told, self.plain_ties(registry, order, person))
                many += len(told)
                barred += len([pair for pair in told if pair in registry[3]])
                kinds += len([1 for friend, other in told if registry[1][other] not in registry[0][registry[2][friend][0]]])
        self.assertGreater(min(many, barred * 9, kinds * 3), 200)
        for odd in [-1, 2, True] + ODD_VALUES[3:]:
            if odd not in (0, 1) or type(odd) is not int:
                with self.assertRaises(InvalidQuestion) as caught:
                    helping_ties((((0,),), (0, 0), (), ()), (0, 1), odd)
                self.assertEqual(caught.exception.at, 2)

    def test_people_without_a_friend(self):
        registry = (((0,),), (0, 0, 0), ((0, 0), (0, 2)), ())
        # 0 and 2 make a pair; 1 has no friend, so no tie alone would help him
        self.assertEqual(helping_pairs(pair_web(registry), (1, 0, 2), 1), ((0, 1), (1, 2)))
        self.assertEqual(helping_ties(registry, (1, 0, 2), 1), ())
        # each friend of the one who lacks it is told
        registry = (((0,), ()), (0, 0), ((0, 0), (1, 1), (0, None), (1, 1)), ())
        self.assertEqual(helping_ties(registry, (0, 1), 0), ((1, 0), (3, 0)))
        registry = (((0,),), (0, 0), ((0, 0), (0, 1)), ((1, 0),))
        self.assertEqual(helping_ties(registry, (0, 1), 1), ((1, 0),))


class Fair(unittest.TestCase):
    def plain_wronged(self, tried, order, plan):
        """The first one who is passed over, None if nobody is."""
        helped = people_in(plan)
        for at, person in enumerate(order):
            if person not in helped and tried.servable([q for q in order[:at] if q in helped] + [person]):
                return person
        return None

    def test_all_plans(self):
        rng = random.Random(711)
        fair, wrong = 0, 0
        for web in tried_webs(712, 80, 7):
            tried = Tried(web)
            for order in {tuple(range(web[0])), drawn_order(rng, web[0])}:
                kept = tried.kept(order)
                for plan in tried.plans:
                    plan = tuple(sorted(plan))
                    person = self.plain_wronged(tried, order, plan)
                    told = wronged(web=web, order=order, plan=plan)
                    self.assertIs(is_fair(web=web, order=order, plan=plan), person is None)
                    # a plan is fair exactly if it serves just the kept ones
                    self.assertEqual(person is None, tuple(sorted(people_in(plan))) == kept)
                    if person is None:
                        self.assertIsNone(told)
                        fair += 1
                        continue
                    self.assertTrue(type(told) is tuple and len(told) == 2 and only_tuples(told))
                    self.assertEqual(told[0], person)
                    ahead = tuple(q for q in order[:order.index(person)] if q in people_in(plan))
                    self.assertIs(is_plan(web, told[1]), True)
                    self.assertIs(serves(told[1], ahead + (person,)), True)
                    wrong += 1
        self.assertGreater(min(fair, wrong), 200)

    def test_just_one_of_both(self):
        """For each one whom a plan leaves out, nobody ahead of him being wronged: a better plan, or the reason."""
        rng = random.Random(713)
        for web in drawn_webs(714, 40, 3, 7):
            order = drawn_order(rng, web[0])
            kept = kept_lot(web, order)
            for plan in rng.sample(all_plans(web), min(8, len(all_plans(web)))):
                told = wronged(web, order, tuple(sorted(plan)))
                for person in order:
                    if told is not None and person == told[0]:
                        self.assertIn(person, kept)
                        break
                    if person not in people_in(plan):
                        self.assertIs(is_reason(web, order, person, why_not(web, order, person)), True)

    def test_values_that_are_no_plans(self):
        web, order = SEVEN, (4, 0, 1, 2, 3, 5, 6)
        plans = {repr(tuple(sorted(plan))) for plan in all_plans(web)}
        seen = {True: 0, False: 0}
        for value in all_values_near([((0, 1), (2, 3), (5, 6)), ((0, 1), (3, 4), (5, 6)), ()]):
            if repr(value) in plans:
                self.assertIs(is_fair(web, order, value), wronged(web, order, value) is None)
            else:
                self.assertIs(is_fair(web, order, value), False)
                with self.assertRaises(InvalidPlan) as caught:
                    wronged(web, order, value)
                self.assertEqual(caught.exception.at, 2)
            seen[repr(value) in plans] += 1
        self.assertGreater(min(seen.values()), 10)

    def test_forty_people(self):
        rng = random.Random(715)
        for share in (0.03, 0.06, 0.3, 1):
            web, order = drawn_web(rng, 40, share), drawn_order(rng, 40)
            plan = kept_plan(web, order)
            self.assertIs(is_fair(web, order, plan), True)
            self.assertIsNone(wronged(web, order, plan))
            self.assertEqual(wronged(web, order, plan[1:])[0] in people_in(plan[:1]), True)
            self.assertIs(is_fair(web, order, plan[1:]), False)
