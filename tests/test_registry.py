"""Promises [5] and [6], with [1] to [3]: registries and ties."""

import copy
import random
import unittest

from givesifgets.errors import InvalidRegistry
from givesifgets.registry import (barred_more, free_friends, friends_of, has_tie, is_registry, registry_of, ties_of)
from tests.plain import ODD_VALUES, near_values, only_tuples

SMALL = (((0, 1), (1,)), (0, 1, 1), ((0, 1), (1, 0), (1, 2), (0, None)), ((3, 2),))


def drawn_parts(rng, kinds=None, people=None, friends=None, barred=None):
    kinds = rng.randint(1, 4) if kinds is None else kinds
    people = rng.randint(0, 5) if people is None else people
    friends = rng.randint(0, 6) if friends is None else friends
    fits = [[rng.randrange(kinds) for _ in range(rng.randint(0, kinds + 1))] for _ in range(kinds)]
    row = [rng.randrange(kinds) for _ in range(people)]
    owned = [(rng.randrange(kinds), rng.choice([None] + list(range(people)))) for _ in range(friends)]
    pairs = []
    if people and friends:
        many = rng.randint(0, 4) if barred is None else barred
        pairs = [(rng.randrange(friends), rng.randrange(people)) for _ in range(many)]
    return [fits, row, owned, pairs]


def drawn_registry(rng, *sizes):
    return registry_of(*drawn_parts(rng, *sizes))


def as_kind(kind, parts):
    """The parts with lists, or tuples, or both, throughout."""
    rng = random.Random(repr(parts))

    def turned(value):
        if isinstance(value, (list, tuple)):
            things = [turned(thing) for thing in value]
            wanted = kind if kind is not None else rng.choice((list, tuple))
            return wanted(things)
        return value

    return [turned(part) for part in parts]


def plain_registry(parts):
    """The registry with these right parts, by the words of the document."""
    fits, people, friends, barred = parts
    rows = tuple(tuple(k for k in range(len(fits)) if k in row) for row in fits)
    pairs = [(f, p) for f in range(len(friends)) for p in range(len(people))]
    told = [tuple(pair) for pair in barred]
    return (rows, tuple(people), tuple((kind, owner) for kind, owner in friends),
            tuple(pair for pair in pairs if pair in told))


def plain_tie(registry, friend, person):
    fits, people, friends, barred = registry
    if (friend, person) in barred or friends[friend][1] == person:
        return False
    return people[person] in fits[friends[friend][0]]


class Making(unittest.TestCase):
    def refused(self, at, parts):
        with self.assertRaises(InvalidRegistry) as caught:
            registry_of(*parts)
        self.assertEqual(caught.exception.at, at, parts)
        self.assertIs(type(caught.exception.at), int)

    def test_drawn_ones_in_all_kinds_of_sequences(self):
        rng = random.Random(1)
        for _ in range(400):
            parts = drawn_parts(rng)
            for kind in (list, tuple, None):
                told = registry_of(*as_kind(kind, parts))
                self.assertEqual(told, plain_registry(parts))
                self.assertTrue(only_tuples(told))
                self.assertIs(is_registry(told), True)

    def test_twice_and_in_any_order(self):
        told = registry_of([[1, 0, 1], [1, 1]], [1, 0], [[0, None]], [(0, 1), [0, 0], (0, 1)])
        self.assertEqual(told, (((0, 1), (1,)), (1, 0), ((0, None),), ((0, 0), (0, 1))))

    def test_names_of_the_arguments(self):
        self.assertEqual(registry_of(barred=[], friends=[], people=[], fits=[[]]), (((),), (), (), ()))

    def test_arguments_stay_and_do_not_show_through(self):
        parts = as_kind(list, [[[1, 0, 0], [1]], [1, 0], [(0, 1), (1, None)], [(1, 0), (0, 0), (1, 0)]])
        before = copy.deepcopy(parts)
        told = registry_of(*parts)
        self.assertEqual(parts, before)
        kept = copy.deepcopy(told)
        for part in parts:
            for row in part:
                if isinstance(row, list):
                    row.append(9)
            part.clear()
        self.assertEqual(told, kept)

    def test_limits(self):
        for kinds in (1, 12):
            self.assertEqual(len(registry_of([[]] * kinds, [], [], [])[0]), kinds)
        for fits in ([], (), [[]] * 13, [[]] * 200):
            self.refused(0, (fits, [], [], []))
        self.assertEqual(len(registry_of([[0]], [0] * 60, [(0, 59)] * 120, [(119, 59)])[2]), 120)
        self.refused(1, ([[0]], [0] * 61, [], []))
        self.refused(2, ([[0]], [0], [(0, None)] * 121, []))
        every = [(f, p) for f in range(120) for p in range(60)]
        full = registry_of([[0]], [0] * 60, [(0, None)] * 120, every[::-1] + every)
        self.assertEqual(full[3], tuple(every))

    def test_parts_that_are_none(self):
        good = [[[0, 1], [1]], [0, 1, 1], [(0, 1), (1, 0), (1, 2), (0, None)], [(3, 2)]]
        wrong = [
            [5, "", "ab", {}, {0: [0]}, {0}, None, 0.0, True, [0], [[2], []], [[-1]], [[True]], [[False]], [[0.0]],
             [["0"]], [[None]], [{0}], [{}], [""], ["0"], [[[0]]], [[0], None], [[10 ** 999]], range(1), [range(1)],
             [[1]], b"", [b""], iter([[0]])],
            [5, "", "01", {}, {0: 1}, {0}, None, [2], [-1], [True], [False], [0.0], ["0"], [None], [[0]], [()], b"\x00",
             [10 ** 999], range(2), iter([0])],
            [5, "", {}, {(0, 1): 1}, None, [0], [()], [(0,)], [(0, 1, 2)], [(2, 1)], [(0, 3)], [(True, 1)], [(0, True)],
             [(False, None)], [(0, False)], [(0.0, 1)], [(0, 1.0)], [(0, -1)], [(-1, 0)], [(None, 0)], ["01"], [{0, 1}],
             [{0: 1, 1: 0}], [(0, (1,))], [((0,), 1)], [(0, 10 ** 999)], [(0, 1), None], b"", iter([(0, 1)])],
            [5, "", {}, {(0, 1): 1}, None, [0], [()], [(0,)], [(0, 1, 2)], [(4, 1)], [(0, 3)], [(True, 1)], [(0, True)],
             [(0, None)], [(0, False)], [(0.0, 1)], [(0, 1.0)], [(0, -1)], [(-1, 0)], [(None, 0)], ["01"], [{0, 1}],
             [{0: 1, 1: 0}], [(0, (1,))], [(0, 10 ** 999)], [(0, 1), None], b"", {(0, 1)}, iter([(0, 1)])],
        ]
        for at in range(4):
            for value in wrong[at]:
                parts = list(good)
                parts[at] = value
                if at == 0 and value == [[0.0]]:
                    parts[0] = [[0, 1], [0.0]]
                self.refused(at, parts)
                # what stands behind a wrong part is not looked at
                for behind in range(at + 1, 4):
                    self.refused(at, parts[:behind] + [None] * (4 - behind))
                    self.refused(at, parts[:behind] + [wrong[behind][5]] + parts[behind + 1:])

    def test_any_values_at_all(self):
        for value in ODD_VALUES:
            for other in ODD_VALUES[::7]:
                parts = [[[0]], value, other, other]
                try:
                    self.assertTrue(is_registry(registry_of(*parts)))
                except InvalidRegistry as error:
                    self.assertIn(error.at, (1, 2, 3))
                try:
                    self.assertTrue(is_registry(registry_of(value, other, other, value)))
                except InvalidRegistry as error:
                    self.assertIn(error.at, (0, 1, 2, 3))


class Judging(unittest.TestCase):
    def plain_is(self, value):
        if not isinstance(value, tuple) or len(value) != 4 or not only_tuples(value):
            return False
        if any(part.__class__ is not tuple for part in value):
            return False
        try:
            told = registry_of(*value)
        except InvalidRegistry:
            return False
        return repr(told) == repr(value)

    def test_near_values(self):
        rng = random.Random(2)
        seen = {True: 0, False: 0}
        for registry in [SMALL, (((),), (), (), ())] + [drawn_registry(rng) for _ in range(40)]:
            self.assertIs(is_registry(registry), True)
            for value in near_values(registry):
                told = is_registry(value)
                self.assertIs(told, self.plain_is(value), value)
                seen[told] += 1
        self.assertGreater(min(seen.values()), 100)

    def test_wrong_ones_by_hand(self):
        fits, people, friends, barred = SMALL
        for value in (
                list(SMALL), SMALL[:3], SMALL + ((),), ([(0, 1), (1,)], people, friends, barred),
                ((fits[0], [1]), people, friends, barred), (((1, 0), (1,)), people, friends, barred),
                (((0, 0), (1,)), people, friends, barred), (fits, list(people), friends, barred),
                (fits, (False, 1, 1), friends, barred), (fits, people, list(friends), barred),
                (fits, people, ([0, 1],) + friends[1:], barred), (fits, people, friends, [(3, 2)]),
                (fits, people, friends, ([3, 2],)), (fits, people, friends, ((3, 2), (3, 2))),
                (fits, people, friends, ((3, 2), (3, 1))), (fits, people, friends, ((4, 0),)),
                (((False, 1), (1,)), people, friends, barred), (fits, people, ((0, True),) + friends[1:], barred),
                ((), (), (), ()), (((),) * 13, (), (), ()), (((0,),), (0,) * 61, (), ()),
                (((0,),), (), ((0, None),) * 121, ())):
            self.assertIs(is_registry(value), False, value)
        for value in ((((),), (), (), ()), (((),) * 12, (11,) * 60, ((11, 59),) * 120, ((0, 0), (119, 59)))):
            self.assertIs(is_registry(value), True, value)

    def test_odd_values(self):
        for value in ODD_VALUES:
            self.assertIs(is_registry(value), self.plain_is(value), value)


class Ties(unittest.TestCase):
    def registries(self):
        rng = random.Random(3)
        yield SMALL
        yield registry_of([[]], [], [], [])
        yield registry_of([[0]], [0, 0], [], [])
        yield registry_of([[0]], [], [(0, None)], [])
        yield drawn_registry(rng, 3, 60, 120, 800)
        for _ in range(150):
            yield drawn_registry(rng)

    def test_ties(self):
        for registry in self.registries():
            people, friends = registry[1], registry[2]
            ties = [(f, p) for f in range(len(friends)) for p in range(len(people)) if plain_tie(registry, f, p)]
            self.assertEqual(ties_of(registry), tuple(ties))
            if len(people) < 10:
                for friend in range(len(friends)):
                    for person in range(len(people)):
                        told = has_tie(registry=registry, friend=friend, person=person)
                        self.assertIs(told, (friend, person) in ties)

    def test_friends(self):
        for registry in self.registries():
            friends = registry[2]
            free = free_friends(registry)
            self.assertEqual(free, tuple(f for f in range(len(friends)) if friends[f][1] is None))
            for person in range(len(registry[1])):
                told = friends_of(registry, person)
                self.assertEqual(told, tuple(f for f in range(len(friends)) if friends[f] == (friends[f][0], person)))

    def test_barred_more(self):
        for registry in self.registries():
            pairs = [(f, p) for f in range(len(registry[2])) for p in range(len(registry[1]))]
            for friend, person in pairs[::max(1, len(pairs) // 20)]:
                told = barred_more(registry, friend, person)
                self.assertTrue(is_registry(told))
                self.assertEqual(told[:3], registry[:3])
                self.assertEqual(set(told[3]), set(registry[3]) | {(friend, person)})
                self.assertEqual(ties_of(told), tuple(tie for tie in ties_of(registry) if tie != (friend, person)))

    def test_by_hand(self):
        self.assertIs(has_tie(SMALL, 0, 0), True)
        self.assertIs(has_tie(SMALL, 0, 1), False)   # his owner
        self.assertIs(has_tie(SMALL, 3, 2), False)   # barred
        self.assertIs(has_tie(SMALL, 1, 0), False)   # the kinds do not fit, and his owner
        self.assertEqual(friends_of(SMALL, 1), (0,))
        self.assertEqual(free_friends(SMALL), (3,))
        self.assertEqual(barred_more(SMALL, 3, 0)[3], ((3, 0), (3, 2)))
        self.assertEqual(barred_more(SMALL, 3, 2), SMALL)
