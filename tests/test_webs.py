"""Promises [7] to [9]: webs, arcs, lots, orders and other names."""

import itertools
import random
import unittest

from givesifgets.registry import registry_of, ties_of
from givesifgets.webs import (arcs_of, are_arcs, is_lot, is_order, is_web, neighbours, pair_web, renamed_lot,
                              renamed_web, without)
from tests.plain import ODD_VALUES, all_webs, drawn_order, drawn_web, lots_of, near_values, only_tuples
from tests.test_registry import SMALL, drawn_registry


def plain_number(value):
    return type(value) is int and value >= 0


def plain_pairs(n, value):
    """Whether any value is an ascending tuple of pairs of numbers below n."""
    if type(value) is not tuple:
        return False
    for pair in value:
        if type(pair) is not tuple or len(pair) != 2 or not all(plain_number(x) and x < n for x in pair):
            return False
    return list(value) == sorted(set(value))


def plain_web(value):
    if type(value) is not tuple or len(value) != 2 or not plain_number(value[0]) or value[0] > 60:
        return False
    return plain_pairs(*value) and all(u < v for u, v in value[1])


def plain_lot(n, value):
    if type(value) is not tuple or not all(plain_number(x) and x < n for x in value):
        return False
    return list(value) == sorted(set(value))


def plain_arcs(value):
    if type(value) is not tuple or len(value) != 3 or not plain_number(value[0]) or value[0] > 60:
        return False
    n, arcs, givers = value
    if not plain_pairs(n, arcs) or any(u == v for u, v in arcs) or type(givers) is not tuple:
        return False
    return all(plain_lot(n, lot) for lot in givers)


def registries():
    rng = random.Random(4)
    yield SMALL
    yield registry_of([[]], [], [], [])
    yield registry_of([[0]], [0, 0], [], [])
    yield registry_of([[0]], [], [(0, None)], [])
    yield registry_of([[0]], [0] * 60, [(0, k % 60) for k in range(120)], [])
    yield drawn_registry(rng, 3, 60, 120, 2000)
    for _ in range(150):
        yield drawn_registry(rng)
    for _ in range(30):
        yield drawn_registry(rng, 2, 8, 14, 20)


class FromRegistries(unittest.TestCase):
    def test_arcs(self):
        for registry in registries():
            _, people, friends, _ = registry
            ties = set(ties_of(registry))
            n = len(people)
            of = {p: [f for f in range(len(friends)) if friends[f] == (friends[f][0], p)] for p in range(n)}
            arcs = tuple((u, v) for u in range(n) for v in range(n) if any((f, v) in ties for f in of[u]))
            free = [f for f in range(len(friends)) if friends[f][1] is None]
            givers = tuple(tuple(p for p in range(n) if (f, p) in ties) for f in free)
            told = arcs_of(registry)
            self.assertEqual(told, (n, arcs, givers))
            self.assertTrue(only_tuples(told))
            self.assertIs(are_arcs(told), True)

    def test_pair_web(self):
        for registry in registries():
            n, arcs, _ = arcs_of(registry)
            known = set(arcs)
            pairs = tuple(pair for pair in itertools.combinations(range(n), 2) if {pair, pair[::-1]} <= known)
            told = pair_web(registry)
            self.assertEqual(told, (n, pairs))
            self.assertTrue(only_tuples(told))
            self.assertIs(is_web(told), True)

    def test_free_friends_make_no_pairs(self):
        registry = registry_of([[0]], [0, 0], [(0, None), (0, None), (0, 1)], [])
        self.assertEqual(pair_web(registry), (2, ()))
        self.assertEqual(arcs_of(registry), (2, ((1, 0),), ((0, 1), (0, 1))))


class Webs(unittest.TestCase):
    def webs(self):
        rng = random.Random(5)
        for n in range(5):
            yield from all_webs(n)
        for n in (6, 9, 30, 60):
            for share in (0, 0.1, 0.6, 1.1):
                yield drawn_web(rng, n, share)

    def test_neighbours(self):
        for web in self.webs():
            for person in range(web[0]):
                near = tuple(q for q in range(web[0]) if (min(q, person), max(q, person)) in web[1] and q != person)
                self.assertEqual(neighbours(web=web, person=person), near)

    def test_without(self):
        for web in self.webs():
            lots = lots_of(web[0]) if web[0] < 5 else [(), (0,), (1, 3), tuple(range(web[0]))]
            for lot in lots:
                told = without(web=web, lot=lot)
                self.assertEqual(told, (web[0], tuple(pair for pair in web[1] if not set(pair) & set(lot))))
                self.assertIs(is_web(told), True)

    def test_renamed(self):
        rng = random.Random(6)
        for web in self.webs():
            n = web[0]
            one, other = drawn_order(rng, n), drawn_order(rng, n)
            told = renamed_web(web=web, names=one)
            self.assertIs(is_web(told), True)
            for u, v in itertools.combinations(range(n), 2):
                pair = tuple(sorted((one[u], one[v])))
                self.assertEqual(pair in told[1], (u, v) in web[1])
            both = tuple(other[one[u]] for u in range(n))
            self.assertEqual(renamed_web(told, other), renamed_web(web, both))
            self.assertEqual(renamed_web(web, tuple(range(n))), web)
            lot = tuple(sorted(rng.sample(range(n), rng.randint(0, n))))
            self.assertEqual(renamed_lot(lot=lot, names=one), tuple(sorted(one[p] for p in lot)))
            self.assertEqual(without(told, renamed_lot(lot, one)), renamed_web(without(web, lot), one))


class Judging(unittest.TestCase):
    def test_webs(self):
        good = [(0, ()), (1, ()), (60, ()), (60, ((58, 59),)), (4, ((0, 1), (0, 3), (2, 3)))]
        for value in good:
            self.assertIs(is_web(value), True)
            for other in near_values(value):
                self.assertIs(is_web(other), plain_web(other), other)
        for value in ODD_VALUES + [(61, ()), (-1, ()), (True, ()), (2, ((0, 2),)), (2, ((1, 1),)), (2, ((1, 0),)),
                                   (3, ((1, 2), (0, 1))), (3, ((0, 1), (0, 1))), (3, [(0, 1)]), [3, ((0, 1),)],
                                   (3, ([0, 1],)), (2, ((False, True),)), (2.0, ()), (3, ((0, 1, 2),))]:
            self.assertIs(is_web(value), plain_web(value), value)

    def test_all_small_webs(self):
        for web in all_webs(4):
            self.assertIs(is_web(web), True)
            for n in range(4):
                self.assertIs(is_web((n, web[1])), plain_web((n, web[1])))

    def test_arcs(self):
        good = [(0, (), ()), (0, (), ((),)), (60, ((59, 0),), ((59,),)), (3, ((0, 1), (1, 0), (2, 0)), ((0, 2), (), (1,)))]
        for value in good:
            self.assertIs(are_arcs(value), True)
            for other in near_values(value):
                self.assertIs(are_arcs(other), plain_arcs(other), other)
        for value in ODD_VALUES + [(61, (), ()), (2, ((0, 0),), ()), (2, ((1, 0), (0, 1)), ()), (2, (), ((1, 0),)),
                                   (2, (), ((2,),)), (2, (), [()]), (2, (), ([],)), (2, [], ()), (2, (), (0,)),
                                   (2, (), ((True,),)), (2, ((True, False),), ())]:
            self.assertIs(are_arcs(value), plain_arcs(value), value)

    def test_lots(self):
        for n in range(5):
            good = lots_of(n)
            for size in range(n + 2):
                for value in itertools.product(range(n + 1), repeat=size):
                    self.assertIs(is_lot(n=n, value=value), value in good)
            for lot in good:
                for other in near_values(lot):
                    self.assertIs(is_lot(n, other), plain_lot(n, other), other)
        for n in (0, 1, 3, 60):
            for value in ODD_VALUES:
                self.assertIs(is_lot(n, value), plain_lot(n, value), value)
        self.assertIs(is_lot(60, tuple(range(60))), True)
        self.assertIs(is_lot(60, (60,)), False)

    def test_orders(self):
        for n in range(5):
            good = set(itertools.permutations(range(n)))
            for size in range(n + 2):
                for value in itertools.product(range(n + 1), repeat=size):
                    self.assertIs(is_order(n=n, value=value), value in good)
            for order in good:
                for other in near_values(order):
                    told = type(other) is tuple and all(type(x) is int for x in other) and other in good
                    self.assertIs(is_order(n, other), told, other)
        for value in ODD_VALUES:
            self.assertIs(is_order(0, value), type(value) is tuple and value == ())
            self.assertIs(is_order(60, value), False)
        self.assertIs(is_order(60, tuple(range(60))[::-1]), True)
        self.assertIs(is_order(2, (True, False)), False)
        self.assertIs(is_order(2, [0, 1]), False)
