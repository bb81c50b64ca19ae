"""Promises [11] and [12]: wishes, dockets and how they are written."""

import itertools
import random
import unittest

from givesifgets.dockets import are_wishes, is_docket, renamed_docket
from givesifgets.dockettexts import docket_text, docket_tokens
from givesifgets.registry import is_registry, registry_of, ties_of
from givesifgets.tokens import tokens_of
from givesifgets.webs import arcs_of, is_order, pair_web, renamed_web
from tests.plain import ODD_VALUES, drawn_order, near_values, only_tuples
from tests.test_registry import SMALL, drawn_registry

EMPTY = ((((),), (), (), ()), (), ())


def drawn_docket(rng, *sizes):
    registry = drawn_registry(rng, *sizes)
    n, arcs, _ = arcs_of(registry)
    wishes = []
    for person in range(n):
        others = [u for u, v in arcs if v == person]
        rng.shuffle(others)
        wishes.append(tuple(others[:rng.randint(0, len(others))]) + (person,))
    return (registry, drawn_order(rng, n), tuple(wishes))


def dockets(many, seed=8):
    rng = random.Random(seed)
    yield EMPTY
    for _ in range(many):
        yield drawn_docket(rng)


def plain_wishes(n, value):
    if type(value) is not tuple or len(value) != n:
        return False
    for person, row in enumerate(value):
        if type(row) is not tuple or not row or not all(type(x) is int and 0 <= x < n for x in row):
            return False
        if len(set(row)) < len(row) or row[-1] != person:
            return False
    return True


def plain_docket(value):
    if type(value) is not tuple or len(value) != 3 or not is_registry(value[0]):
        return False
    registry, order, wishes = value
    n = len(registry[1])
    if not is_order(n, order) or not plain_wishes(n, wishes):
        return False
    ties = ties_of(registry)
    for person, row in enumerate(wishes):
        for other in row:
            if other != person and not any(registry[2][f][1] == other for f, p in ties if p == person):
                return False
    return True


class Wishes(unittest.TestCase):
    def test_all_small_ones(self):
        for n in range(4):
            rows = [row for size in range(n + 2) for row in itertools.product(range(n + 1), repeat=size)]
            if n == 3:
                rows = rows[::3]
            seen = set()
            for value in itertools.product(rows, repeat=n):
                told = are_wishes(n=n, value=value)
                self.assertIs(told, plain_wishes(n, value), value)
                seen.add(told)
            self.assertIn(True, seen)

    def test_near_and_odd_ones(self):
        for value in ((), ((0,),), ((1, 0), (1,)), ((2, 1, 0), (1,), (0, 2))):
            n = len(value)
            self.assertIs(are_wishes(n, value), True)
            for other in near_values(value):
                self.assertIs(are_wishes(n, other), plain_wishes(n, other), other)
        for n in (0, 1, 2, 60):
            for value in ODD_VALUES:
                self.assertIs(are_wishes(n, value), plain_wishes(n, value), value)


class Dockets(unittest.TestCase):
    def test_near_values(self):
        seen = {True: 0, False: 0}
        for docket in dockets(40):
            self.assertIs(is_docket(docket), True)
            for value in near_values(docket):
                told = is_docket(value)
                self.assertIs(told, plain_docket(value), value)
                seen[told] += 1
        self.assertGreater(min(seen.values()), 100)

    def test_odd_values(self):
        for value in ODD_VALUES + [(SMALL, value, value) for value in ODD_VALUES]:
            self.assertIs(is_docket(value=value), plain_docket(value), value)

    def test_wishes_want_arcs(self):
        registry = registry_of([[0]], [0, 0], [(0, 0)], [])
        self.assertIs(is_docket((registry, (0, 1), ((0,), (0, 1)))), True)
        self.assertIs(is_docket((registry, (0, 1), ((1, 0), (0, 1)))), False)
        free = registry_of([[0]], [0, 0], [(0, None)], [])
        self.assertIs(is_docket((free, (0, 1), ((0,), (0, 1)))), False)
        barred = registry_of([[0]], [0, 0], [(0, 0)], [(0, 1)])
        self.assertIs(is_docket((barred, (0, 1), ((0,), (0, 1)))), False)

    def test_renamed(self):
        rng = random.Random(9)
        for docket in dockets(200):
            registry, order, wishes = docket
            n = len(order)
            one, other = drawn_order(rng, n), drawn_order(rng, n)
            told = renamed_docket(docket=docket, names=one)
            self.assertIs(is_docket(told), True)
            self.assertTrue(only_tuples(told))
            self.assertEqual(told[0][0], registry[0])
            self.assertEqual(told[1], tuple(one[p] for p in order))
            for person in range(n):
                self.assertEqual(told[0][1][one[person]], registry[1][person])
                self.assertEqual(told[2][one[person]], tuple(one[q] for q in wishes[person]))
            for (kind, owner), (new_kind, new_owner) in itertools.zip_longest(registry[2], told[0][2]):
                self.assertEqual((new_kind, new_owner), (kind, None if owner is None else one[owner]))
            self.assertEqual(set(told[0][3]), {(f, one[p]) for f, p in registry[3]})
            _, arcs, givers = arcs_of(registry)
            self.assertEqual(arcs_of(told[0])[1], tuple(sorted((one[u], one[v]) for u, v in arcs)))
            self.assertEqual(arcs_of(told[0])[2], tuple(tuple(sorted(one[p] for p in lot)) for lot in givers))
            self.assertEqual(pair_web(told[0]), renamed_web(pair_web(registry), one))
            self.assertEqual(renamed_docket(told, other), renamed_docket(docket, tuple(other[one[p]] for p in range(n))))
            self.assertEqual(renamed_docket(docket, tuple(range(n))), docket)


class Writing(unittest.TestCase):
    def test_tokens(self):
        for docket in dockets(200):
            (fits, people, friends, barred), order, wishes = docket
            text = "".join("kind %d : %s ; " % (k, " ".join(map(str, row))) for k, row in enumerate(fits))
            text += "".join("person %d : %d ; " % entry for entry in enumerate(people))
            for friend, (kind, owner) in enumerate(friends):
                text += "friend %d : %d %s ; " % (friend, kind, "free" if owner is None else "for %d" % owner)
            text += "".join("barred %d to %d ; " % pair for pair in barred)
            text += "order : %s ; " % " ".join(map(str, order))
            text += "".join("wishes %d : %s ; " % (p, " ".join(map(str, row))) for p, row in enumerate(wishes))
            told = docket_tokens(docket=docket)
            self.assertEqual(told, tuple(text.split()))
            written = docket_text(docket=docket)
            self.assertIsInstance(written, str)
            self.assertEqual(tokens_of(written), told)

    def test_empty(self):
        self.assertEqual(docket_tokens(EMPTY), ("kind", "0", ":", ";", "order", ":", ";"))

    def test_none_begins_another(self):
        known = {}
        for docket in dockets(800, seed=10):
            known[docket_tokens(docket)] = docket
        ends = set(known)
        for tokens in known:
            for size in range(len(tokens)):
                self.assertNotIn(tokens[:size], ends)
        self.assertEqual(len(known), len(set(known.values())))
