"""Promises of chapter 10 on pieces [40] and packs [41], and what is refused above 14 people."""

import itertools
import random
import unittest

from givesifgets.errors import Refused
from givesifgets.packs import is_pack, served_by, weight_of, weights_by
from givesifgets.pieces import is_piece, pieces_of, source_of, sources_of
from tests.plain import ODD_VALUES, all_values_near, drawn_order, is_one_of, lots_of, only_tuples
from tests.plainpacks import (LIMITS, all_packs, drawn_arcs, people_of_pack, plain_pieces, plain_source, plain_sources,
                              small_arcs, users, weight, whole_arcs)

ARCS = (4, ((0, 1), (0, 2), (1, 0), (1, 2), (2, 0), (2, 1), (2, 3), (3, 0)), ((1, 3), (0,)))


def changed_pieces(piece, n, givers):
    """Values near a piece: turned round, begun with another person, longer, of another giver, other words, kinds."""
    people = piece[-1]
    rows = [people[::-1], people[1:] + people[:1], people + (people[0],), people[:-1], people * 2, (), list(people)]
    rows += [people + (p,) for p in range(n)] + [(p,) + people[1:] for p in range(n)] + [tuple(map(float, people))]
    rows += [tuple(bool(p) if p < 2 else p for p in people), set(people), people + (None,), None, people[0]]
    for row in rows:
        yield piece[:-1] + (row,)
    for word in ("ring", "chain", "Ring", "", None, 0, "way", b"ring", ("ring",)):
        yield (word,) + piece[1:]
        yield (word, people)
        yield (word, 0, people)
    for giver in list(range(givers + 2)) + [-1, True, False, 0.0, 1.0, None, "0", (0,), 10 ** 999]:
        yield ("chain", giver, people)
        yield ("ring", giver, people)
    yield from (list(piece), piece + ((),), piece[:-1], (piece,), people)


class Pieces(unittest.TestCase):
    def test_pieces_of(self):
        for arcs in small_arcs(171, 150):
            for limits in LIMITS if arcs[0] > 2 else LIMITS[:5]:
                told = pieces_of(arcs=arcs, limits=limits)
                self.assertEqual(told, plain_pieces(arcs, limits))
                self.assertTrue(only_tuples(told))
                for piece in told:
                    self.assertIs(is_piece(arcs=arcs, limits=limits, value=piece), True)

    def test_all_arcs_of_three(self):
        every = list(itertools.permutations(range(3), 2))
        for size in range(7):
            for pairs in itertools.combinations(every, size):
                for givers in ((), ((0, 2),), ((), (0, 1, 2)), ((1,), (1,))):
                    for limits in LIMITS:
                        arcs = (3, pairs, givers)
                        self.assertEqual(pieces_of(arcs, limits), plain_pieces(arcs, limits))

    def test_limits_and_pairs_both_ways(self):
        arcs = whole_arcs(5, 1)
        for ring, chain in LIMITS:
            told = pieces_of(arcs, (ring, chain))
            rings = [piece for piece in told if piece[0] == "ring"]
            self.assertEqual(len(rings), {2: 10, 3: 30, 4: 60}[ring])
            self.assertEqual(len(told) - len(rings), {1: 5, 2: 25, 3: 85, 4: 205}[chain])

    def test_values_near_pieces(self):
        rng = random.Random(172)
        seen = {True: 0, False: 0}
        for arcs in [ARCS, whole_arcs(4, 2)] + [drawn_arcs(rng, 4, 0.6, 2) for _ in range(6)]:
            for limits in ((2, 1), (3, 2), (4, 4)):
                wanted = {repr(piece) for piece in plain_pieces(arcs, limits)}
                every = plain_pieces(arcs, (4, 4))
                for piece in rng.sample(every, min(5, len(every))):
                    for value in itertools.chain(changed_pieces(piece, 4, 2), all_values_near([piece])):
                        told = is_piece(arcs, limits, value)
                        self.assertIs(told, repr(value) in wanted, value)
                        seen[told] += 1
        self.assertGreater(seen[True], 300)
        self.assertGreater(seen[False], 5000)

    def test_named_edges(self):
        self.assertIs(is_piece(ARCS, (3, 2), ("ring", (0, 1, 2))), True)
        self.assertIs(is_piece(ARCS, (3, 2), ("ring", (0, 2, 1))), True)
        self.assertIs(is_piece(ARCS, (4, 2), ("ring", (0, 3, 2, 1))), False)
        self.assertIs(is_piece(ARCS, (3, 2), ("ring", (1, 2, 0))), False)
        self.assertIs(is_piece(ARCS, (2, 2), ("ring", (0, 1, 2))), False)
        self.assertIs(is_piece(ARCS, (3, 2), ("ring", (0,))), False)
        self.assertIs(is_piece(ARCS, (3, 2), ("chain", 0, (1, 2))), True)
        self.assertIs(is_piece(ARCS, (3, 1), ("chain", 0, (1, 2))), False)
        self.assertIs(is_piece(ARCS, (3, 2), ("chain", 1, (1, 2))), False)
        self.assertIs(is_piece(ARCS, (3, 2), ("chain", 0, ())), False)
        self.assertIs(is_piece(ARCS, (3, 2), ("chain", 2, (1,))), False)
        self.assertIs(is_piece(ARCS, (3, 2), ("chain", False, (1,))), False)
        self.assertIs(is_piece(ARCS, (3, 2), ("ring", (False, True))), False)
        self.assertIs(is_piece((0, (), ()), (2, 1), ("ring", ())), False)

    def test_sources(self):
        for arcs in small_arcs(173, 60):
            for person in range(arcs[0]):
                told = sources_of(arcs=arcs, person=person)
                self.assertEqual(told, plain_sources(arcs, person))
                self.assertTrue(only_tuples(told))
        self.assertEqual(sources_of(ARCS, 0), (("friend", 1), ("friend", 2), ("friend", 3), ("giver", 1), ("none",)))
        arcs = (60, ((7, 3), (50, 3)), tuple((3,) for _ in range(12)))
        wanted = (("friend", 7), ("friend", 50)) + tuple(("giver", g) for g in range(12)) + (("none",),)
        self.assertEqual(sources_of(arcs, 3), wanted)

    def test_source_of(self):
        for arcs in small_arcs(174, 40):
            for piece in plain_pieces(arcs, (4, 4)):
                for person in range(arcs[0]):
                    told = source_of(piece=piece, person=person)
                    self.assertEqual(told, plain_source(piece, person))
                    self.assertTrue(told is None or told in sources_of(arcs, person))
        self.assertEqual(source_of(("ring", (0, 1, 2)), 0), ("friend", 2))
        self.assertEqual(source_of(("chain", 4, (3, 1)), 3), ("giver", 4))
        self.assertEqual(source_of(("chain", 4, (3, 1)), 1), ("friend", 3))
        self.assertIsNone(source_of(("chain", 4, (3, 1)), 4))

    def test_fourteen_people_and_fifteen(self):
        for share in (0.1, 0.5, 1):
            arcs = drawn_arcs(random.Random(175), 14, share, 2)
            for limits in ((2, 1), (4, 1)):
                told = pieces_of(arcs, limits)
                self.assertEqual(told, tuple(sorted(set(told))))
                self.assertTrue(all(is_piece(arcs, limits, piece) for piece in told[::9]))
        self.assertEqual(len(pieces_of(whole_arcs(14), (4, 4))), 91 + 2 * 364 + 6 * 1001)
        for n in (15, 16, 60):
            arcs = (n, ((0, 1), (1, 0), (1, n - 1)), ((1,),))
            for limits in LIMITS:
                with self.assertRaises(Refused) as caught:
                    pieces_of(arcs, limits)
                self.assertEqual(caught.exception.at, n)
            ring, chain = ("ring", (0, 1)), ("chain", 0, (1, n - 1))
            self.assertIs(is_piece(arcs, (2, 1), ring), True)
            self.assertIs(is_piece(arcs, (2, 1), chain), False)
            self.assertIs(is_piece(arcs, (2, 2), chain), True)
            self.assertIs(is_pack(arcs, (2, 2), (chain,)), True)
            self.assertIs(is_pack(arcs, (2, 2), (chain, ring)), False)


class Packs(unittest.TestCase):
    def test_all_packs(self):
        rng = random.Random(181)
        for arcs in small_arcs(182, 25, 4):
            limits = rng.choice(LIMITS)
            pieces = plain_pieces(arcs, limits)
            packs = {repr(pack) for pack in all_packs(pieces)}
            for size in range(4):
                every = list(itertools.combinations(pieces, size))
                for value in every if len(every) < 200 else rng.sample(every, 200):
                    self.assertIs(is_pack(arcs=arcs, limits=limits, value=value), repr(value) in packs)
                    if size > 1:
                        self.assertIs(is_pack(arcs, limits, value[::-1]), False)
                        self.assertIs(is_pack(arcs, limits, value[:1] + value), False)

    def test_values_near_packs(self):
        rng = random.Random(183)
        seen = {True: 0, False: 0}
        for arcs in [ARCS, whole_arcs(4, 2)] + [drawn_arcs(rng, 4, 0.7, 2) for _ in range(5)]:
            for limits in ((2, 1), (3, 2)):
                packs = all_packs(plain_pieces(arcs, limits))
                wanted = {repr(pack) for pack in packs}
                for pack in rng.sample(packs, min(4, len(packs))) + packs[-1:]:
                    for value in all_values_near([pack]):
                        self.assertIs(is_pack(arcs, limits, value), repr(value) in wanted, value)
                        seen[repr(value) in wanted] += 1
        self.assertGreater(min(seen.values()), 100)

    def test_person_or_giver_in_common(self):
        arcs = whole_arcs(5, 2)
        limits = (3, 2)
        for value, told in (
                ((), True), ((("ring", (0, 1)), ("ring", (2, 3))), True), ((("ring", (0, 1)), ("ring", (1, 2))), False),
                ((("chain", 0, (0,)), ("chain", 1, (1,))), True), ((("chain", 0, (0,)), ("chain", 0, (1,))), False),
                ((("chain", 0, (0,)), ("chain", 1, (0,))), False), ((("chain", 0, (0,)), ("ring", (0, 1))), False),
                ((("chain", 1, (0,)), ("ring", (1, 2))), True), ((("ring", (1, 2)), ("chain", 1, (0,))), False)):
            self.assertIs(is_pack(arcs, limits, value), told, value)

    def test_odd_values(self):
        for arcs in (ARCS, (0, (), ()), (2, ((0, 1), (1, 0)), ())):
            packs = all_packs(plain_pieces(arcs, (4, 4)))
            for odd in ODD_VALUES:
                for value in (odd, (odd,), [odd], ("ring", odd), (("ring", odd),), (("chain", 0, odd),),
                              (("chain", odd, (1,)),), ((odd, (0, 1)),)):
                    self.assertIs(is_pack(arcs, (4, 4), value), is_one_of(value, packs), value)
                    self.assertIs(is_piece(arcs, (4, 4), value), is_one_of(value, plain_pieces(arcs, (4, 4))), value)

    def test_served_by_and_weight_of(self):
        rng = random.Random(184)
        for arcs in small_arcs(185, 20, 4):
            for pack in all_packs(plain_pieces(arcs, (3, 2)))[::3]:
                told = served_by(pack=pack)
                self.assertEqual(told, tuple(sorted(people_of_pack(pack))))
                self.assertEqual(len(told), sum(len(users(piece)) - (piece[0] == "chain") for piece in pack))
                weights = tuple(rng.randrange(10 ** rng.choice((1, 999))) for _ in range(arcs[0]))
                self.assertEqual(weight_of(weights=weights, lot=told), weight(weights, told))
        self.assertEqual((served_by(()), weight_of((), ())), ((), 0))

    def test_weights_by(self):
        rng = random.Random(186)
        for n in range(8):
            for _ in range(20):
                order = drawn_order(rng, n)
                worths = tuple(rng.randrange(10 ** rng.choice((1, 2, 999))) for _ in range(n))
                told = weights_by(worths=worths, order=order)
                self.assertTrue(type(told) is tuple and only_tuples(told))
                for person in range(n):
                    place = order.index(person)
                    self.assertEqual(told[person], worths[person] * 2 ** n + 2 ** (n - 1 - place))
        self.assertEqual(weights_by((3, 0, 1), (2, 0, 1)), (24 + 2, 1, 8 + 4))

    def test_what_weighs_more(self):
        rng = random.Random(187)
        for n in range(6):
            for _ in range(5):
                order = drawn_order(rng, n)
                worths = tuple(rng.randrange(3) for _ in range(n))
                weights = weights_by(worths, order)
                for one, other in itertools.permutations(lots_of(n), 2):
                    more = weight(worths, one) - weight(worths, other)
                    first = [person for person in order if (person in one) != (person in other)][0]
                    heavier = more > 0 or more == 0 and first in one
                    self.assertEqual(weight_of(weights, one) > weight_of(weights, other), heavier)
