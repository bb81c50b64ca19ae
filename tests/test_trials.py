"""Promise [49]: tests one after another."""

import itertools
import random
import unittest

from givesifgets.errors import Refused
from givesifgets.search import largest_plan
from givesifgets.shortlists import first_cover, short_list
from givesifgets.trials import fewest_tests, is_trial_tree, missing, trial_tree
from tests.plain import ODD_VALUES, all_plans, all_values_near, all_webs, drawn_order, drawn_web, drawn_webs, only_tuples

STAR = (6, ((0, 1), (0, 2), (0, 3), (0, 4), (1, 5)))


def without_pair(web, pair):
    return (web[0], tuple(other for other in web[1] if other != pair))


class Looker:
    """A plain trying of all trees; what it found out is kept by web, good pairs and number."""

    def __init__(self):
        self.plans = {}
        self.known = {}

    def largest(self, web):
        if web not in self.plans:
            plans = [tuple(sorted(plan)) for plan in all_plans(web)]
            most = max(len(plan) for plan in plans)
            self.plans[web] = [plan for plan in plans if len(plan) == most]
        return self.plans[web]

    def missing(self, web, good):
        return min(len(set(plan) - set(good)) for plan in self.largest(web))

    def fewest(self, web, good, most):
        if most == 0 or self.missing(web, good) == 0:
            return 0
        key = (web, good, most)
        if key not in self.known:
            self.known[key] = min(1 + max(self.fewest(web, tuple(sorted(good + (pair,))), most),
                                          self.fewest(without_pair(web, pair), good, most - 1))
                                  for pair in web[1] if pair not in good)
        return self.known[key]

    def is_tree(self, web, good, most, value):
        if type(value) is not tuple or not value:
            return False
        if most == 0 or self.missing(web, good) == 0:
            if len(value) != 2 or repr(value[0]) != "'over'":
                return False
            plans = [plan for plan in self.largest(web) if most == 0 or set(plan) <= set(good)]
            return repr(value[1]) in {repr(plan) for plan in plans}
        if len(value) != 4 or repr(value[0]) != "'ask'":
            return False
        pair = value[1]
        if repr(pair) not in {repr(other) for other in web[1] if other not in good}:
            return False
        held = self.is_tree(web, tuple(sorted(good + (pair,))), most, value[2])
        return held and self.is_tree(without_pair(web, pair), good, most - 1, value[3])

    def drawn_tree(self, rng, web, good, most):
        """Some tree, which asks what comes."""
        if most == 0 or self.missing(web, good) == 0:
            return ("over", rng.choice([p for p in self.largest(web) if most == 0 or set(p) <= set(good)]))
        pair = rng.choice([pair for pair in web[1] if pair not in good])
        return ("ask", pair, self.drawn_tree(rng, web, tuple(sorted(good + (pair,))), most),
                self.drawn_tree(rng, without_pair(web, pair), good, most - 1))


def depth(tree):
    return 0 if tree[0] == "over" else 1 + max(depth(tree[2]), depth(tree[3]))


def webs_and_good(seed, many, most_unknown=5):
    rng = random.Random(seed)
    webs = [web for n in range(4) for web in all_webs(n)] + list(all_webs(4))[::4] + [STAR]
    for web in webs + list(drawn_webs(seed + 1, many, 5, 7)):
        for _ in range(2):
            unknown = rng.sample(web[1], min(len(web[1]), rng.randint(0, most_unknown)))
            yield web, tuple(pair for pair in web[1] if pair not in unknown)


class Trials(unittest.TestCase):
    def test_missing(self):
        looker = Looker()
        seen = set()
        for web, good in webs_and_good(261, 60, 7):
            told = missing(web=web, good=good)
            self.assertEqual(told, looker.missing(web, good))
            self.assertIs(type(told), int)
            seen.add(told)
        self.assertLessEqual({0, 1, 2, 3}, seen)

    def test_fewest_tests(self):
        looker = Looker()
        seen = {}
        for web, good in webs_and_good(262, 60):
            lost, size = looker.missing(web, good), len(looker.largest(web)[0])
            for most in range(4):
                told = fewest_tests(web=web, good=good, most=most)
                self.assertEqual(told, looker.fewest(web, good, most))
                self.assertIs(type(told), int)
                seen[told] = seen.get(told, 0) + 1
                if most:
                    self.assertLessEqual(lost, told)
                    self.assertLessEqual(told, lost + (most - 1) * size)
                if most == 1:
                    self.assertEqual(told, lost)
        self.assertGreater(min(seen[count] for count in range(5)), 5)

    def test_short_lists_do(self):
        rng = random.Random(263)
        for web, good in webs_and_good(264, 40, 7):
            order = drawn_order(rng, web[0])
            for most in range(3):
                short = short_list(web, order, first_cover(web), most + rng.randint(0, 1))
                self.assertLessEqual(fewest_tests(web, good, most), len(set(short[1]) - set(good)))

    def test_trees(self):
        looker = Looker()
        for web, good in webs_and_good(265, 60):
            for most in (0, 1, 2, 3, 10 ** 999):
                told = trial_tree(web=web, good=good, most=most)
                self.assertTrue(type(told) is tuple and only_tuples(told))
                self.assertTrue(looker.is_tree(web, good, most, told), (web, good, most, told))
                self.assertIs(is_trial_tree(web=web, good=good, most=most, value=told), True)
                self.assertEqual(depth(told), fewest_tests(web, good, most))

    def test_any_trees(self):
        rng = random.Random(266)
        looker = Looker()
        longer = 0
        for web, good in webs_and_good(267, 40):
            for most in (0, 1, 2, 9):
                tree = looker.drawn_tree(rng, web, good, most)
                self.assertTrue(looker.is_tree(web, good, most, tree))
                self.assertIs(is_trial_tree(web, good, most, tree), True)
                longer += depth(tree) > fewest_tests(web, good, most)
        self.assertGreater(longer, 20)

    def spoilt(self, web, good, tree, plans):
        """Values near a tree, its rows spoilt in place."""
        yield from (list(tree), tree + ((),), tree[:-1], (tree,), None, (), ("over", ()), ("ask",), tree[:2])
        for plan in plans:
            yield ("over", plan)
            yield ("over", list(plan))
        if tree[0] == "over":
            yield ("Over", tree[1])
            yield ("ask", tree[1])
            for pair in web[1]:
                yield ("ask", pair, tree, tree)
            return
        _, pair, held, failed = tree
        yield ("ask", pair, failed, held)
        yield ("ask", pair, held, held)
        yield ("ask", pair, failed, failed)
        yield ("over", pair, held, failed)
        yield ("ask", list(pair), held, failed)
        yield ("ask", pair[::-1], held, failed)
        yield ("ask", tuple(map(bool, pair)), held, failed)
        yield ("ask", tuple(map(float, pair)), held, failed)
        yield from (held, failed)
        for other in list(itertools.combinations(range(web[0]), 2)) + [None, (), (0,), (0, web[0])]:
            yield ("ask", other, held, failed)
        for other in self.spoilt(web, good, held, plans):
            yield ("ask", pair, other, failed)
        for other in self.spoilt(web, good, failed, plans):
            yield ("ask", pair, held, other)

    def test_spoilt_trees(self):
        rng = random.Random(268)
        looker = Looker()
        seen = {True: 0, False: 0}
        cases = [(web, good) for web, good in webs_and_good(269, 40, 4) if 2 < web[0] < 7 and len(web[1]) > 2]
        for web, good in rng.sample(cases, 25) + [(STAR, ()), (STAR, STAR[1]), (STAR, ((0, 2),))]:
            for most in (0, 1, 2):
                tree = rng.choice((trial_tree(web, good, most), looker.drawn_tree(rng, web, good, most)))
                plans = rng.sample(all_plans(web), min(6, len(all_plans(web))))
                values = list(self.spoilt(web, good, tree, [tuple(sorted(plan)) for plan in plans]))
                near = list(all_values_near([tree]))
                values = values + near if len(values) < 400 else rng.sample(values, 400) + rng.sample(near, 100)
                for value in values:
                    wanted = looker.is_tree(web, good, most, value)
                    self.assertIs(is_trial_tree(web, good, most, value), wanted, value)
                    seen[wanted] += 1
        self.assertGreater(seen[True], 100)
        self.assertGreater(seen[False], 5000)

    def test_named_edges(self):
        web = (4, ((0, 1), (1, 2), (2, 3)))
        over = ("over", ((0, 1), (2, 3)))
        self.assertIs(is_trial_tree(web, (), 0, over), True)
        self.assertIs(is_trial_tree(web, (), 1, over), False)
        self.assertIs(is_trial_tree(web, ((0, 1), (2, 3)), 1, over), True)
        self.assertIs(is_trial_tree(web, ((0, 1), (2, 3)), 1, ("ask", (1, 2), over, over)), False)
        self.assertIs(is_trial_tree(web, ((0, 1), (2, 3)), 0, ("ask", (1, 2), over, over)), False)
        self.assertIs(is_trial_tree(web, (), 0, ("over", ((1, 2),))), False)
        fallen = ("over", ((0, 1),))
        tree = ("ask", (2, 3), over, fallen)
        self.assertIs(is_trial_tree(web, ((0, 1),), 1, tree), True)
        self.assertIs(is_trial_tree(web, ((0, 1),), 1, ("ask", (2, 3), over, ("over", ((1, 2),)))), True)
        self.assertIs(is_trial_tree(web, ((0, 1),), 1, ("ask", (2, 3), fallen, over)), False)
        self.assertIs(is_trial_tree(web, ((0, 1),), 1, ("ask", (0, 1), tree, tree)), False)
        self.assertIs(is_trial_tree(web, ((0, 1),), 1, ("ask", (0, 3), tree, tree)), False)
        self.assertIs(is_trial_tree(web, ((0, 1),), 1, ("ask", (2, 3), ("ask", (2, 3), over, fallen), fallen)), False)
        self.assertIs(is_trial_tree(web, ((0, 1),), 2, tree), True)
        self.assertIs(is_trial_tree(web, ((0, 1), (1, 2)), 2, tree), True)
        self.assertEqual(trial_tree((0, ()), (), 5), ("over", ()))
        self.assertEqual((missing((3, ()), ()), fewest_tests((3, ()), (), 3)), (0, 0))

    def test_odd_values(self):
        looker = Looker()
        web, good = (4, ((0, 1), (1, 2), (2, 3))), ((0, 1),)
        for odd in ODD_VALUES:
            for value in (odd, (odd,), ("over", odd), (odd, ()), ("ask", odd, odd, odd), ("ask", (2, 3), odd, odd), (
                    "ask", odd, ("over", ((0, 1), (2, 3))), ("over", ((0, 1),))), (odd, (2, 3), ("over", (
                        (0, 1), (2, 3))), ("over", ((0, 1),))), ("ask", (2, 3), ("over", odd), ("over", ((0, 1),)))):
                for most in (0, 1):
                    wanted = looker.is_tree(web, good, most, value)
                    self.assertIs(is_trial_tree(web, good, most, value), wanted, value)

    def test_seven_pairs_and_eight(self):
        rng = random.Random(270)
        for web in [(8, tuple((u, v) for u in range(4) for v in (4, 5))), drawn_web(rng, 60, 0.3), drawn_web(rng, 40, 0.1)]:
            good = tuple(sorted(rng.sample(web[1], len(web[1]) - 7)))
            for most in (1, 2, 7):
                tree = trial_tree(web, good, most)
                self.assertIs(is_trial_tree(web, good, most, tree), True)
                self.assertEqual(depth(tree), fewest_tests(web, good, most))
            self.assertEqual(missing(web, good), fewest_tests(web, good, 1))
            self.assertLessEqual(missing(web, good), len(largest_plan(web)))
            for function, more in ((missing, ()), (fewest_tests, (1,)), (trial_tree, (0,)), (is_trial_tree, (1, tree)),
                                   (fewest_tests, (0,)), (is_trial_tree, (0, None))):
                with self.assertRaises(Refused) as caught:
                    function(web, good[1:], *more)
                self.assertEqual(caught.exception.at, 0)

    def test_example(self):
        self.assertEqual((fewest_tests(STAR, (), 1), fewest_tests(STAR, (), 5), missing(STAR, ((0, 2),))), (2, 5, 1))
