"""Promise [14]: plans."""

import random
import unittest

from givesifgets.plans import is_plan, partner, served, serves, unserved
from tests.plain import (ODD_VALUES, all_plans, all_webs, drawn_web, drawn_webs, lots_of, near_values, only_tuples,
                         people_in)


class Plans(unittest.TestCase):
    def webs(self):
        for n in range(5):
            yield from all_webs(n)
        yield from drawn_webs(20, 40, 5, 7)

    def test_all_plans(self):
        for web in self.webs():
            plans = all_plans(web)
            good = {repr(plan) for plan in plans}
            for plan in plans[-40:] + plans[:5]:
                self.assertIs(is_plan(web=web, value=plan), True)
                for value in near_values(plan):
                    self.assertIs(is_plan(web, value), repr(value) in good, (web, value))

    def test_odd_values(self):
        for web in ((0, ()), (1, ()), (2, ((0, 1),)), (4, ((0, 1), (1, 2), (2, 3)))):
            good = {repr(plan) for plan in all_plans(web)}
            for value in ODD_VALUES + [((2, 3), (0, 1)), ((0, 1), (1, 2)), ((1, 0),), ((0, 1), (0, 1)), [[0, 1]],
                                       ([0, 1],), ((False, True),), ((0.0, 1),), ((0, 3),), ((2, 4),), ((0, 1), None)]:
                self.assertIs(is_plan(web, value), repr(value) in good, (web, value))

    def test_whom_they_serve(self):
        for web in self.webs():
            plans = all_plans(web)
            for plan in plans[::max(1, len(plans) // 10)]:
                people = people_in(plan)
                self.assertEqual(served(plan=plan), tuple(sorted(people)))
                self.assertEqual(len(served(plan)), 2 * len(plan))
                self.assertEqual(unserved(web=web, plan=plan), tuple(p for p in range(web[0]) if p not in people))
                self.assertTrue(only_tuples((served(plan), unserved(web, plan))))
                for person in range(web[0]):
                    others = [u + v - person for u, v in plan if person in (u, v)]
                    self.assertEqual(partner(plan=plan, person=person), others[0] if others else None)
                if web[0] < 6:
                    for lot in lots_of(web[0]):
                        self.assertIs(serves(plan=plan, lot=lot), set(lot) <= people)

    def test_sixty_people(self):
        rng = random.Random(21)
        web = drawn_web(rng, 60, 1.1)
        plan = tuple((k, k + 1) for k in range(0, 60, 2))
        self.assertIs(is_plan(web, plan), True)
        self.assertIs(is_plan(web, plan + ((58, 59),)), False)
        self.assertEqual((served(plan), unserved(web, plan)), (tuple(range(60)), ()))
        self.assertEqual((served(()), unserved(web, ()), partner((), 3)), ((), tuple(range(60)), None))
