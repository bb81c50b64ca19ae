"""Promises [30] to [32]: the kept lot, its papers, every beginning."""

import itertools
import random
import unittest

from givesifgets.bases import is_base, most_of
from givesifgets.kept import is_earlier, kept_lot, kept_plan, places
from givesifgets.keptpapers import beginnings, is_kept_paper, kept_paper
from givesifgets.plans import is_plan, served
from tests.plain import (ODD_VALUES, Tried, all_plans, all_values_near, all_webs, drawn_order, drawn_web, drawn_webs,
                         lots_of, only_tuples, people_in, plain_closed)
from tests.test_search import SHAPES


def cases(seed):
    rng = random.Random(seed)
    for n in range(4):
        for web in all_webs(n):
            for order in itertools.permutations(range(n)):
                yield web, order
    for web in list(all_webs(4)) + list(all_webs(5)) + SHAPES * 5 + list(drawn_webs(seed, 120, 6, 9)):
        for _ in range(3):
            yield web, drawn_order(rng, web[0])


def plain_kept_paper(web, order, value):
    """Whether any value is a paper, by the words of the document."""
    plans = {repr(plan) for plan in all_plans(web)}
    lots = {repr(lot) for lot in lots_of(web[0])}
    if type(value) is not tuple or len(value) != 2 or repr(value[0]) not in plans or type(value[1]) is not tuple:
        return False
    kept = people_in(value[0])
    others = [person for person in range(web[0]) if person not in kept]
    if len(value[1]) != len(others):
        return False
    for reason, person in zip(value[1], others):
        if type(reason) is not tuple or len(reason) != 2 or repr(reason[0]) != repr(person):
            return False
        if repr(reason[1]) not in lots:
            return False
        lot = [other for other in order[:order.index(person)] if other in kept] + [person]
        if len(plain_closed(web, lot, reason[1])) <= len(reason[1]):
            return False
    return True


class Kept(unittest.TestCase):
    def test_kept_lot_and_plan(self):
        for web, order in cases(71):
            tried = Tried(web)
            lot = kept_lot(web=web, order=order)
            self.assertEqual(lot, tried.kept(order))
            self.assertIn(lot, tried.bases())
            plan = kept_plan(web=web, order=order)
            self.assertIn(plan, tried.plans)
            self.assertEqual(served(plan), lot)

    def test_beginnings(self):
        for web, order in cases(72):
            tried = Tried(web)
            told = beginnings(web=web, order=order)
            self.assertTrue(type(told) is tuple and only_tuples(told))
            kept = tried.kept(order)
            for size in range(web[0] + 1):
                begun = order[:size]
                self.assertEqual(told[size], len(set(begun) & set(kept)))
                self.assertEqual(told[size], tried.most(begun))
            self.assertEqual(len(told), web[0] + 1)

    def test_beginnings_at_sixty(self):
        rng = random.Random(73)
        for n, share in ((40, 0.05), (60, 0.04), (60, 0.3), (60, 1.1)):
            web, order = drawn_web(rng, n, share), drawn_order(rng, n)
            told = beginnings(web, order)
            for size in range(n + 1):
                self.assertEqual(told[size], most_of(web, tuple(sorted(order[:size]))))
            self.assertIs(is_base(web, kept_lot(web, order)), True)
            plan, reasons = paper = kept_paper(web, order)
            self.assertIs(is_kept_paper(web, order, paper), True)
            self.assertEqual(served(plan), kept_lot(web, order))
            self.assertEqual(len(reasons), n - 2 * len(plan))


class Papers(unittest.TestCase):
    def test_kept_paper(self):
        for web, order in cases(74):
            plan, reasons = told = kept_paper(web=web, order=order)
            self.assertTrue(only_tuples(told))
            self.assertIs(is_plan(web, plan), True)
            kept = Tried(web).kept(order)
            self.assertEqual(served(plan), kept)
            self.assertEqual([person for person, _ in reasons], [p for p in range(web[0]) if p not in kept])
            for person, taken in reasons:
                lot = [other for other in order[:order.index(person)] if other in kept] + [person]
                self.assertGreater(len(plain_closed(web, lot, taken)), len(taken))
            self.assertIs(is_kept_paper(web=web, order=order, value=told), True)

    def test_near_values(self):
        rng = random.Random(75)
        seen = {True: 0, False: 0}
        webs = list(all_webs(4))[::7] + SHAPES[:1] + list(drawn_webs(76, 12, 5, 6)) + [(2, ()), (0, ())]
        for web in webs:
            order = drawn_order(rng, web[0])
            paper = kept_paper(web, order)
            for value in all_values_near([paper]):
                told = is_kept_paper(web, order, value)
                self.assertIs(told, plain_kept_paper(web, order, value), (web, order, value))
                seen[told] += 1
        self.assertGreater(seen[True], 20)
        self.assertGreater(seen[False], 1000)

    def test_all_pairs_of_plans_and_reasons(self):
        """Whatever paper there is at all, its plan serves just the kept ones."""
        rng = random.Random(77)
        for web in list(all_webs(4))[::3] + list(drawn_webs(78, 4, 5, 5)):
            order = drawn_order(rng, web[0])
            kept = Tried(web).kept(order)
            lots = lots_of(web[0])
            found = 0
            for plan in all_plans(web):
                others = [person for person in range(web[0]) if person not in people_in(plan)]
                rows = [[(person, taken) for taken in lots] for person in others]
                if len(lots) ** len(others) > 5000:
                    continue
                for reasons in itertools.product(*rows):
                    if is_kept_paper(web, order, (plan, reasons)):
                        self.assertEqual(tuple(sorted(people_in(plan))), kept)
                        found += 1
            self.assertTrue(found or len(kept) < web[0] - 1)

    def test_odd_values(self):
        for web, order in (((0, ()), ()), ((1, ()), (0,)), ((3, ((0, 1),)), (2, 1, 0))):
            for value in ODD_VALUES + [((), value) for value in ODD_VALUES] + [(value, ()) for value in ODD_VALUES]:
                self.assertIs(is_kept_paper(web, order, value), plain_kept_paper(web, order, value), value)


class Orders(unittest.TestCase):
    def test_places(self):
        rng = random.Random(79)
        for n in range(7):
            order = drawn_order(rng, n)
            for lot in lots_of(n):
                told = places(order=order, lot=lot)
                self.assertEqual(told, tuple(sorted(order.index(person) for person in lot)))

    def test_is_earlier(self):
        rng = random.Random(80)
        for n in range(5):
            order = drawn_order(rng, n)
            for one, other in itertools.product(lots_of(n), lots_of(n)):
                apart = [person for person in order if (person in one) != (person in other)]
                told = is_earlier(order=order, one=one, other=other)
                self.assertIs(told, bool(apart) and apart[0] in one)

    def test_kept_lot_is_earliest(self):
        for web, order in list(cases(81))[::5]:
            kept = kept_lot(web, order)
            tried = Tried(web)
            for lot in lots_of(web[0]):
                if tried.servable(lot) and lot != kept:
                    self.assertIs(is_earlier(order, kept, lot), True)
                    self.assertIs(is_earlier(order, lot, kept), False)
                    mine = places(order, kept)
                    self.assertTrue(all(mine[at] <= place for at, place in enumerate(places(order, lot))))
