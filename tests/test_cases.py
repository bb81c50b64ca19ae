"""Promises [42] and [43]: cases, and best packs."""

import itertools
import random
import unittest

from givesifgets.bestpacks import best_keeping, best_lot, pack_for
from givesifgets.cases import fits_case, is_case, keeps
from givesifgets.errors import Refused
from givesifgets.packs import is_pack, weights_by
from tests.plain import ODD_VALUES, all_values_near, drawn_order, lots_of, only_tuples
from tests.plainpacks import (LIMITS, all_packs, drawn_arcs, drawn_weights, people_of_pack, plain_fits, plain_keeps,
                              plain_pieces, plain_source, plain_sources, small_arcs, weight, whole_arcs)

ARCS = (4, ((0, 1), (0, 2), (1, 0), (1, 2), (2, 0), (2, 1), (2, 3), (3, 0)), ((1, 3), (0,)))


def drawn_case(rng, arcs, share=0.5):
    return tuple((p, rng.choice(plain_sources(arcs, p))) for p in range(arcs[0]) if rng.random() < share)


def case_of(rng, arcs, pack, share=0.6):
    """What a pack tells of some people."""
    told = {person: plain_source(piece, person) for piece in pack for person in piece[-1]}
    return tuple((p, told.get(p, ("none",))) for p in range(arcs[0]) if rng.random() < share)


def plain_is_case(arcs, value):
    if type(value) is not tuple:
        return False
    for row in value:
        if type(row) is not tuple or len(row) != 2 or repr(row[0]) not in [repr(p) for p in range(arcs[0])]:
            return False
        if repr(row[1]) not in [repr(source) for source in plain_sources(arcs, row[0])]:
            return False
    return all(value[at - 1][0] < value[at][0] for at in range(1, len(value)))


def drawn_cases(rng, arcs, packs, many):
    yield ()
    for at in range(many):
        yield drawn_case(rng, arcs, rng.random())
        yield case_of(rng, arcs, rng.choice(packs), rng.random())


class Cases(unittest.TestCase):
    def test_is_case(self):
        rng = random.Random(201)
        seen = {True: 0, False: 0}
        for arcs in [ARCS, whole_arcs(3, 2), (2, (), ()), (0, (), ((),))] + list(small_arcs(202, 25))[::9]:
            cases = [drawn_case(rng, arcs, share) for share in (0, 0.4, 1)]
            n = arcs[0]
            for case in cases:
                self.assertIs(is_case(arcs=arcs, value=case), True)
                values = [case + case[-1:], case[::-1], list(case), tuple(map(list, case))]
                values += [tuple((p, list(source)) for p, source in case), tuple((float(p), s) for p, s in case)]
                values += [tuple((bool(p) if p < 2 else p, source) for p, source in case)]
                values += [tuple((p, s[:1] + tuple(map(float, s[1:]))) for p, s in case)]
                values += [tuple((p, s[:1] + tuple(bool(u) if u < 2 else u for u in s[1:])) for p, s in case)]
                # sources of others, and all that look like sources
                values += [((p, source),) for p in range(n) for q in range(n) for source in plain_sources(arcs, q)]
                values += [((p, (word, number)),) for p in range(n) for word in ("friend", "giver", "none")
                           for number in range(-1, 5)]
                for value in itertools.chain(values, all_values_near([case])):
                    wanted = plain_is_case(arcs, value)
                    self.assertIs(is_case(arcs, value), wanted, value)
                    seen[wanted] += 1
        self.assertGreater(min(seen.values()), 500)

    def test_odd_values(self):
        for arcs in (ARCS, (0, (), ()), (3, ((0, 1), (1, 0)), ((0, 1),))):
            for odd in ODD_VALUES:
                for value in (odd, (odd,), ((odd, ("none",)),), ((0, odd),), ((0, ("friend", odd)),),
                              ((0, ("giver", odd)),), ((1, (odd, 0)),), ((0, ("none",)), odd)):
                    self.assertIs(is_case(arcs, value), plain_is_case(arcs, value), value)

    def test_sources_in_any_number(self):
        self.assertIs(is_case(ARCS, tuple((p, ("none",)) for p in range(4))), True)
        self.assertIs(is_case(ARCS, ((0, ("friend", 1)), (2, ("friend", 1)))), True)
        self.assertIs(is_case(ARCS, ((0, ("friend", 1)), (0, ("none",)))), False)
        self.assertIs(is_case(ARCS, ((3, ("friend", 1)),)), False)
        self.assertIs(is_case(ARCS, ((1, ("giver", False)),)), False)
        self.assertIs(is_case(ARCS, ((1, ("giver", 0)),)), True)

    def test_fits_case(self):
        rng = random.Random(203)
        seen = {True: 0, False: 0}
        for arcs in small_arcs(204, 60):
            pieces = plain_pieces(arcs, rng.choice(LIMITS))
            packs = all_packs(pieces[:12])
            for case in drawn_cases(rng, arcs, packs, 6):
                for piece in pieces if len(pieces) < 60 else rng.sample(pieces, 60):
                    told = fits_case(case=case, piece=piece)
                    self.assertIs(told, plain_fits(case, piece), (case, piece))
                    seen[told] += 1
        self.assertGreater(min(seen.values()), 500)

    def test_what_fits(self):
        ring, chain = ("ring", (0, 1, 2)), ("chain", 0, (1, 2))
        for case, piece, told in (
                ((), ring, True), (((0, ("friend", 2)),), ring, True), (((0, ("friend", 1)),), ring, False),
                (((3, ("friend", 2)),), ring, False), (((3, ("friend", 0)),), chain, True),
                (((3, ("none",)),), ring, True), (((2, ("none",)),), ring, False), (((1, ("giver", 0)),), ring, False),
                (((1, ("giver", 0)),), chain, True), (((3, ("giver", 0)),), chain, False),
                (((1, ("giver", 1)),), ring, False), (((3, ("giver", 1)),), chain, True),
                (((0, ("giver", 1)),), ("ring", (1, 2)), True), (((0, ("giver", 1)),), ("ring", (0, 1)), False)):
            self.assertIs(fits_case(case, piece), told, (case, piece))

    def test_keeps(self):
        rng = random.Random(205)
        seen = {True: 0, False: 0}
        for arcs in small_arcs(206, 60, 4):
            pieces = plain_pieces(arcs, rng.choice(LIMITS))
            packs = all_packs(rng.sample(pieces, min(len(pieces), 12)))
            for case in drawn_cases(rng, arcs, packs, 5):
                for pack in packs if len(packs) < 40 else rng.sample(packs, 40):
                    told = keeps(pack=tuple(sorted(pack)), case=case)
                    self.assertIs(told, plain_keeps(pack, case), (pack, case))
                    # fitting pieces that serve all whose source is not none
                    forced = {person for person, source in case if source != ("none",)}
                    fitting = all(fits_case(case, piece) for piece in pack)
                    self.assertEqual(told, fitting and forced <= people_of_pack(pack))
                    seen[told] += 1
        self.assertGreater(min(seen.values()), 500)


class BestPacks(unittest.TestCase):
    def test_best_keeping(self):
        rng = random.Random(211)
        seen = {True: 0, False: 0}
        for arcs in small_arcs(212, 500, 4):
            limits = rng.choice(LIMITS)
            packs = all_packs(plain_pieces(arcs, limits))
            for case in drawn_cases(rng, arcs, packs, 3):
                weights = drawn_weights(rng, arcs[0])
                keeping = {repr(pack): weight(weights, people_of_pack(pack)) for pack in packs if plain_keeps(pack, case)}
                told = best_keeping(arcs=arcs, limits=limits, weights=weights, case=case)
                seen[told is None] += 1
                if told is None:
                    self.assertEqual(keeping, {})
                else:
                    self.assertTrue(type(told) is tuple and only_tuples(told))
                    self.assertEqual(keeping[repr(told)], max(keeping.values()))
        self.assertGreater(min(seen.values()), 200)

    def test_best_lot(self):
        rng = random.Random(213)
        for arcs in small_arcs(214, 400, 4):
            limits, n = rng.choice(LIMITS), arcs[0]
            worths, order = drawn_weights(rng, n), drawn_order(rng, n)
            weights = weights_by(worths, order)
            packs = all_packs(plain_pieces(arcs, limits))
            told = best_lot(arcs=arcs, limits=limits, worths=worths, order=order)
            best = max(weight(weights, people_of_pack(pack)) for pack in packs)
            lots = {tuple(sorted(people_of_pack(p))) for p in packs if weight(weights, people_of_pack(p)) == best}
            self.assertEqual(lots, {told})
            self.assertTrue(only_tuples(told))
            others = [arc for arc in arcs[1] if arc[0] not in told]
            for share in (0.3, 0.6, 1):
                hidden = [arc for arc in others if rng.random() < share]
                fewer = (n, tuple(arc for arc in arcs[1] if arc not in hidden), arcs[2])
                self.assertEqual(best_lot(fewer, limits, worths, order), told)

    def test_best_lot_stays_while_a_pack_is_left(self):
        rng = random.Random(215)
        for _ in range(60):
            arcs = drawn_arcs(rng, 4, 0.6, 1)
            limits, worths, order = rng.choice(LIMITS), drawn_weights(rng, 4), drawn_order(rng, 4)
            told = best_lot(arcs, limits, worths, order)
            for arc in arcs[1]:
                fewer = (4, tuple(other for other in arcs[1] if other != arc), arcs[2])
                if pack_for(fewer, limits, told) is not None:
                    self.assertEqual(best_lot(fewer, limits, worths, order), told)

    def test_pack_for(self):
        rng = random.Random(216)
        seen = {True: 0, False: 0}
        for arcs in small_arcs(217, 100, 4):
            limits = rng.choice(LIMITS)
            packs = all_packs(plain_pieces(arcs, limits))
            for lot in lots_of(arcs[0]):
                told = pack_for(arcs=arcs, limits=limits, lot=lot)
                serving = [pack for pack in packs if set(lot) <= people_of_pack(pack)]
                if told is None:
                    self.assertEqual(serving, [])
                else:
                    self.assertIn(told, serving)
                    self.assertTrue(only_tuples(told))
                seen[told is None] += 1
            self.assertIsNotNone(pack_for(arcs, limits, ()))
        self.assertGreater(min(seen.values()), 300)

    def test_lots_cannot_be_exchanged(self):
        arcs = (5, ((0, 2), (1, 2), (2, 1), (2, 3), (3, 0), (3, 4), (4, 3)), ())
        self.assertEqual(pack_for(arcs, (3, 1), (0, 2, 3)), (("ring", (0, 2, 3)),))
        self.assertEqual(pack_for(arcs, (3, 1), (1, 2, 3, 4)), (("ring", (1, 2)), ("ring", (3, 4))))
        for lot in ((0, 1), (0, 4), (0, 1, 4)):
            self.assertIsNone(pack_for(arcs, (3, 1), lot))
        self.assertEqual(best_lot(arcs, (3, 1), (1,) * 5, (0, 1, 2, 3, 4)), (1, 2, 3, 4))
        self.assertEqual(best_lot(arcs, (3, 1), (9, 1, 1, 1, 1), (0, 1, 2, 3, 4)), (0, 2, 3))
        self.assertEqual(best_lot(arcs, (3, 1), (3, 1, 1, 1, 2), (4, 1, 0, 2, 3)), (1, 2, 3, 4))
        self.assertEqual(best_lot(arcs, (3, 1), (3, 1, 1, 1, 2), (0, 1, 4, 2, 3)), (0, 2, 3))

    def test_givers_give_once(self):
        arcs = (3, (), ((0, 1, 2), (2,)))
        self.assertIsNone(pack_for(arcs, (2, 4), (0, 1)))
        self.assertEqual(pack_for(arcs, (2, 4), (0, 2)), (("chain", 0, (0,)), ("chain", 1, (2,))))
        self.assertEqual(best_lot(arcs, (2, 1), (1, 1, 1), (2, 1, 0)), (1, 2))

    def test_fourteen_people_and_fifteen(self):
        rng = random.Random(218)
        drawn = [drawn_arcs(rng, 14, share, givers, 0.3) for share in (0.1, 0.2, 0.5) for givers in (0, 2, 120)]
        for arcs in drawn + [whole_arcs(14, 3), whole_arcs(14)]:
            limits = rng.choice(LIMITS)
            worths, order = drawn_weights(rng, 14), drawn_order(rng, 14)
            lot = best_lot(arcs, limits, worths, order)
            pack = pack_for(arcs, limits, lot)
            self.assertIs(is_pack(arcs, limits, pack), True)
            self.assertLessEqual(set(lot), people_of_pack(pack))
            for case in ((), drawn_case(rng, arcs, 0.1), case_of(rng, arcs, pack)):
                kept = best_keeping(arcs, limits, worths, case)
                self.assertTrue(kept is None or is_pack(arcs, limits, kept) and plain_keeps(kept, case))
            self.assertEqual(plain_keeps(kept, case), True)
        for n in (15, 60):
            arcs, row = (n, ((0, 1), (1, 0)), ()), (0,) * n
            for function, more in ((best_keeping, (row, ())), (best_lot, (row, tuple(range(n)))), (pack_for, ((0,),))):
                with self.assertRaises(Refused) as caught:
                    function(arcs, (2, 1), *more)
                self.assertEqual(caught.exception.at, n)
