"""Promises [25] to [29]: servable lots, exchange, barriers of lots, the most of a lot, bases."""

import itertools
import random
import unittest

from givesifgets.bases import is_base, is_most_paper, most_of, most_paper, rivals
from givesifgets.barriers import is_best_paper
from givesifgets.errors import InvalidQuestion
from givesifgets.lotbarriers import closed_parts, is_lot_paper, lot_paper
from givesifgets.plans import is_plan, served
from givesifgets.search import largest_plan
from givesifgets.servable import is_servable, serving_plan, taken_in
from givesifgets.threeparts import three_parts
from tests.plain import (ODD_VALUES, Tried, all_plans, all_values_near, all_webs, drawn_web, drawn_webs, lots_of,
                         near_values, only_tuples, people_in, plain_closed)
from tests.test_search import SHAPES


def webs_tried(seed, many=60):
    for n in range(6):
        yield from all_webs(n)
    yield from SHAPES
    yield from drawn_webs(seed, many, 6, 8)


def some_lots(rng, n):
    lots = lots_of(n)
    return lots if n < 6 else rng.sample(lots, 25) + [(), tuple(range(n))]


class Servable(unittest.TestCase):
    def test_servable_lots(self):
        for web in webs_tried(51):
            tried = Tried(web)
            for lot in lots_of(web[0]):
                told = is_servable(web=web, lot=lot)
                self.assertIs(told, tried.servable(lot))
                plan = serving_plan(web=web, lot=lot)
                self.assertEqual(plan is not None, told)
                if told:
                    self.assertIs(is_plan(web, plan), True)
                    self.assertLessEqual(set(lot), people_in(plan))

    def test_taken_in(self):
        rng = random.Random(52)
        taken = 0
        for web in webs_tried(53, 30):
            tried = Tried(web)
            lots = lots_of(web[0])
            pairs = list(itertools.product(lots, lots))
            for one, other in pairs if len(pairs) < 300 else rng.sample(pairs, 120):
                if not tried.servable(one):
                    self.refused(1, taken_in, web, one, other)
                elif not tried.servable(other) or len(other) <= len(one):
                    self.refused(2, taken_in, web, one, other)
                else:
                    person, plan = told = taken_in(web=web, one=one, other=other)
                    self.assertTrue(only_tuples(told) and type(told) is tuple)
                    self.assertIn(person, set(other) - set(one))
                    self.assertIs(is_plan(web, plan), True)
                    self.assertLessEqual(set(one) | {person}, people_in(plan))
                    taken += 1
        self.assertGreater(taken, 500)

    def refused(self, at, asked, *arguments):
        with self.assertRaises(InvalidQuestion) as caught:
            asked(*arguments)
        self.assertEqual(caught.exception.at, at, arguments)

    def test_taken_in_any_values(self):
        web = (4, ((0, 1), (1, 2), (2, 3)))
        tried = Tried(web)
        good = {repr(lot) for lot in lots_of(4) if tried.servable(lot)}
        for value in all_values_near([(), (0,), (0, 1), (0, 1, 2), (0, 1, 2, 3)]):
            if repr(value) not in good:
                self.refused(1, taken_in, web, value, (0, 1))
                self.refused(1, taken_in, web, value, value)
                self.refused(2, taken_in, web, (), value)
            elif len(value) == 0:
                self.refused(2, taken_in, web, (), value)
        self.refused(2, taken_in, web, (0, 1), (2, 3))

    def test_great_webs(self):
        rng = random.Random(54)
        for n, share in ((40, 0.06), (60, 0.04), (60, 0.2), (60, 1.1)):
            web = drawn_web(rng, n, share)
            whole = tuple(range(n))
            self.assertEqual(most_of(web, whole), 2 * len(largest_plan(web)))
            base = served(largest_plan(web))
            self.assertIs(is_base(web, base), True)
            self.assertIs(is_servable(web, base), True)
            for _ in range(5):
                lot = tuple(sorted(rng.sample(whole, rng.randint(0, n))))
                self.assertIs(is_most_paper(web, lot, most_paper(web, lot)), True)
                paper = lot_paper(web, lot)
                self.assertIs(is_lot_paper(web, lot, paper), True)
                self.assertEqual(paper[0] == "served", most_of(web, lot) == len(lot))
            free = three_parts(web)[0]
            for person in [person for person in whole if person not in base][:4]:
                told = rivals(web, base, person)
                self.assertLessEqual(set(told), set(free))
                for other in told:
                    self.assertIs(is_base(web, tuple(sorted((set(base) | {person}) - {other}))), True)
            self.assertEqual(taken_in(web, (), base)[0] in base, True)
            person, plan = taken_in(web, base[:-6], base)
            self.assertLessEqual(set(base[:-6]) | {person}, people_in(plan))


class Barriers(unittest.TestCase):
    def test_closed_parts(self):
        rng = random.Random(55)
        for web in webs_tried(56, 30):
            lots = lots_of(web[0])
            for lot, taken in rng.sample(list(itertools.product(lots, lots)), min(60, len(lots) ** 2)):
                told = closed_parts(web=web, lot=lot, taken=taken)
                self.assertEqual(told, plain_closed(web, lot, taken))
                self.assertTrue(only_tuples(told))

    def test_lot_paper(self):
        rng = random.Random(57)
        for web in webs_tried(58):
            tried = Tried(web)
            for lot in some_lots(rng, web[0]):
                told = lot_paper(web=web, lot=lot)
                self.assertTrue(only_tuples(told))
                self.assertIs(is_lot_paper(web=web, lot=lot, value=told), True)
                self.assertEqual(told[0], "served" if tried.servable(lot) else "barred")

    def test_never_both_kinds(self):
        for web in list(all_webs(4)) + SHAPES[:1] + list(drawn_webs(59, 8, 5, 6)):
            tried = Tried(web)
            lots = lots_of(web[0])
            for lot in lots:
                served_by = [plan for plan in tried.plans if is_lot_paper(web, lot, ("served", plan))]
                barred_by = [taken for taken in lots if is_lot_paper(web, lot, ("barred", taken))]
                self.assertEqual(served_by, [plan for plan in tried.plans if set(lot) <= people_in(plan)])
                self.assertEqual(barred_by, [taken for taken in lots
                                             if len(plain_closed(web, lot, taken)) > len(taken)])
                self.assertNotEqual(served_by == [], barred_by == [])

    def test_is_lot_paper_near_values(self):
        for web in list(all_webs(4))[::5] + list(drawn_webs(60, 10, 5, 6)):
            plans = {repr(plan): plan for plan in all_plans(web)}
            lots = {repr(lot): lot for lot in lots_of(web[0])}
            for lot in list(lots.values())[::3]:
                paper = lot_paper(web, lot)
                for value in all_values_near([paper, ("barred", ()), ("served", ()), ("served", (0, 1))]):
                    holds = False
                    if type(value) is tuple and len(value) == 2 and value[0] == "served" and repr(value[1]) in plans:
                        holds = set(lot) <= people_in(value[1])
                    if type(value) is tuple and len(value) == 2 and value[0] == "barred" and repr(value[1]) in lots:
                        holds = len(plain_closed(web, lot, value[1])) > len(value[1])
                    self.assertIs(is_lot_paper(web, lot, value), holds, (web, lot, value))


class Most(unittest.TestCase):
    def test_most(self):
        rng = random.Random(61)
        for web in webs_tried(62):
            tried = Tried(web)
            for lot in some_lots(rng, web[0]):
                told = most_of(web=web, lot=lot)
                self.assertEqual(told, tried.most(lot))
                plan, taken = paper = most_paper(web=web, lot=lot)
                self.assertTrue(only_tuples(paper))
                self.assertIn(plan, tried.plans)
                self.assertEqual(len(people_in(plan) & set(lot)), told)
                self.assertEqual(len(lot) - told, len(plain_closed(web, lot, taken)) - len(taken))
                self.assertIs(is_most_paper(web=web, lot=lot, value=paper), True)
            whole = tuple(range(web[0]))
            self.assertIs(is_best_paper(web, most_paper(web, whole)), True)

    def test_is_most_paper(self):
        for web in list(all_webs(4))[::5] + SHAPES[:1] + list(drawn_webs(63, 6, 5, 6)):
            tried = Tried(web)
            lots = lots_of(web[0])
            for lot in lots[::3] + [tuple(range(web[0]))]:
                good = set()
                for plan, taken in itertools.product(tried.plans, lots):
                    left_out = len(set(lot) - people_in(plan))
                    holds = left_out == len(plain_closed(web, lot, taken)) - len(taken)
                    self.assertIs(is_most_paper(web, lot, (plan, taken)), holds)
                    if holds:
                        good.add(repr((plan, taken)))
                        self.assertEqual(len(lot) - left_out, tried.most(lot))
                self.assertNotEqual(good, set())
                for value in all_values_near([most_paper(web, lot)]):
                    self.assertIs(is_most_paper(web, lot, value), repr(value) in good, (web, lot, value))


class Bases(unittest.TestCase):
    def test_is_base(self):
        for web in webs_tried(64):
            bases = Tried(web).bases()
            for lot in lots_of(web[0]):
                self.assertIs(is_base(web=web, lot=lot), lot in bases)

    def test_is_base_any_value(self):
        for web in ((0, ()), (2, ((0, 1),)), (3, ((0, 1), (1, 2))), (4, ((0, 1), (2, 3)))):
            good = {repr(lot) for lot in Tried(web).bases()}
            for value in all_values_near(Tried(web).bases()):
                self.assertIs(is_base(web, value), repr(value) in good, (web, value))

    def test_rivals(self):
        found = 0
        for web in webs_tried(65):
            tried = Tried(web)
            bases = tried.bases()
            for base in bases:
                for person in range(web[0]):
                    if person in base:
                        self.refused(2, web, base, person)
                        continue
                    told = rivals(web=web, base=base, person=person)
                    plain = [other for other in base
                             if tuple(sorted((set(base) | {person}) - {other})) in bases]
                    self.assertEqual(told, tuple(plain))
                    found += len(plain) > 1
                    if plain and web[0] < 6:
                        self.circuit(tried, base, person, set(told))
        self.assertGreater(found, 300)

    def circuit(self, tried, base, person, told):
        whole = told | {person}
        self.assertFalse(tried.servable(whole))
        self.assertTrue(all(tried.servable(whole - {one}) for one in whole))
        for size in range(len(base) + 1):
            for lot in itertools.combinations(base, size):
                self.assertEqual(tried.servable(set(lot) | {person}), not told <= set(lot))

    def refused(self, at, *arguments):
        with self.assertRaises(InvalidQuestion) as caught:
            rivals(*arguments)
        self.assertEqual(caught.exception.at, at, arguments)

    def test_rivals_refused(self):
        web = (5, ((0, 1), (1, 2), (2, 3), (3, 4)))
        bases = {repr(lot) for lot in Tried(web).bases()}
        for value in all_values_near([(0, 1, 2, 3), (0, 1), ()]):
            if repr(value) not in bases:
                self.refused(1, web, value, 4)
                self.refused(1, web, value, "x")
        for person in ODD_VALUES + [3, 4, 5]:
            if type(person) is int and person == 4:
                self.assertEqual(rivals(web, (0, 1, 2, 3), person), (0, 2))
            else:
                self.refused(2, web, (0, 1, 2, 3), person)
        self.assertEqual(rivals((3, ((0, 1),)), (0, 1), 2), ())
        for value in near_values((0, 1, 2, 3)):
            if repr(value) not in bases:
                self.refused(1, web, value, None)
