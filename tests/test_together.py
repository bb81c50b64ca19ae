"""Promises [38] and [39]: tellings, and wards."""

import itertools
import random
import unittest

from givesifgets.errors import Refused
from givesifgets.kept import kept_lot
from givesifgets.together import gain_together, kept_telling, tellings
from givesifgets.wards import apart, best_apart
from tests.plain import Tried, all_plans, all_webs, drawn_order, drawn_webs, lots_of, only_tuples, people_in
from tests.test_search import SHAPES


def webs_tried(seed, many=30):
    for n in range(5):
        yield from list(all_webs(n))[::1 if n < 4 else 3]
    yield from SHAPES
    yield from drawn_webs(seed, many, 5, 7)


def plain_tellings(web, lot):
    return tuple(sorted(plan for plan in all_plans(web) if all(set(pair) & set(lot) for pair in plan)))


def kept_of(web, gone, more, order):
    """Whom the web keeps without some pairs, but with some others."""
    return Tried((web[0], tuple(sorted(set(web[1]) - set(gone) | set(more))))).kept(order)


def at(web, lot):
    return [pair for pair in web[1] if set(pair) & set(lot)]


class Together(unittest.TestCase):
    def refused(self, most, function, *arguments):
        with self.assertRaises(Refused) as caught:
            function(*arguments)
        self.assertEqual(caught.exception.at, most)

    def test_tellings(self):
        rng = random.Random(151)
        for web in webs_tried(152):
            order = drawn_order(rng, web[0])
            for lot in lots_of(web[0]):
                wanted = plain_tellings(web, lot)
                for most in (len(wanted), len(wanted) + 1, 10 ** 999):
                    told = tellings(web=web, lot=lot, most=most)
                    self.assertEqual(told, wanted)
                    self.assertTrue(only_tuples(told))
                for most in {len(wanted) - 1, len(wanted) // 2, 0}:
                    self.refused(most, tellings, web, lot, most)
                    self.refused(most, gain_together, web, order, lot, most)
        self.assertEqual(tellings((3, ((0, 1),)), (), 1), ((),))
        self.assertEqual(tellings((0, ()), (), 5), ((),))

    def test_kept_telling(self):
        rng = random.Random(153)
        for web in webs_tried(154, 15):
            order = drawn_order(rng, web[0])
            for lot in lots_of(web[0]):
                for telling in plain_tellings(web, lot)[::3]:
                    told = kept_telling(web=web, order=order, lot=lot, telling=telling)
                    self.assertEqual(told, kept_of(web, at(web, lot), telling, order))
                    self.assertTrue(only_tuples(told))

    def test_whatever_is_hidden_is_told(self):
        """What is kept if pairs at a lot are hidden in any way, is kept by a telling, too."""
        rng = random.Random(155)
        for web in list(all_webs(4))[::2] + list(drawn_webs(156, 8, 5, 5)):
            order = drawn_order(rng, web[0])
            for lot in lots_of(web[0]):
                pairs = at(web, lot)
                if len(pairs) > 6:
                    continue
                reached = {kept_telling(web, order, lot, telling) for telling in tellings(web, lot, 10 ** 6)}
                for size in range(len(pairs) + 1):
                    for hidden in itertools.combinations(pairs, size):
                        self.assertIn(kept_of(web, hidden, (), order), reached)

    def test_gain_together(self):
        rng = random.Random(157)
        gained = 0
        for web in webs_tried(158, 60):
            order = drawn_order(rng, web[0])
            kept = set(kept_lot(web, order))
            for lot in lots_of(web[0]):
                mine = kept & set(lot)
                does = []
                for telling in plain_tellings(web, lot):
                    now = set(kept_of(web, at(web, lot), telling, order)) & set(lot)
                    if mine < now:
                        does.append(telling)
                    # no more come than of the lot were kept
                    self.assertLessEqual(len(now - mine), len(mine))
                told = gain_together(web=web, order=order, lot=lot, most=10 ** 6)
                if does:
                    self.assertIn(told, does)
                    gained += 1
                else:
                    self.assertIsNone(told)
                if len(lot) < 2 or not mine:
                    self.assertIsNone(told)
        self.assertGreater(gained, 100)

    def test_far_too_many(self):
        """Among all pairs of sixty people nobody could list the plans: so they are refused ahead of that."""
        web, order = (60, tuple(itertools.combinations(range(60), 2))), tuple(range(60))
        everyone = tuple(range(60))
        for most in (0, 1, 30, 5000):
            self.refused(most, tellings, web, everyone, most)
            self.refused(most, tellings, web, (7, 8, 9), most)
            self.refused(most, gain_together, web, order, everyone, most)
            self.refused(most, best_apart, web, order, everyone, most)
        self.assertEqual(len(tellings(web, (7,), 60)), 60)
        self.assertIsNone(gain_together(web, order, (7, 8), 4000))

    def test_edges_of_gain(self):
        web, order = (4, ((0, 1), (1, 2))), (0, 1, 2, 3)
        self.assertEqual(gain_together(web, order, (1, 2), 9), ((1, 2),))
        self.assertEqual(gain_together(web, order, (1, 2), 3), ((1, 2),))
        self.refused(2, gain_together, web, order, (1, 2), 2)
        self.refused(0, gain_together, web, order, (), 0)
        for lot in ((), (1,), (2,), (3,), (2, 3), (0, 1)):
            self.assertIsNone(gain_together(web, order, lot, 9))


class Wards(unittest.TestCase):
    refused = Together.refused

    def test_apart(self):
        rng = random.Random(161)
        for web in webs_tried(162):
            order = drawn_order(rng, web[0])
            for inside in all_plans(web)[:40]:
                for share in (0, 0.5):
                    pairs = tuple(pair for pair in web[1] if rng.random() < share)
                    helped = people_in(inside)
                    rest = set(kept_of(web, list(pairs) + at(web, helped), (), order))
                    self.assertFalse(rest & helped)
                    told = apart(web=web, order=order, pairs=pairs, inside=inside)
                    self.assertEqual(told, tuple(sorted(rest | helped)))
                    self.assertTrue(type(told) is tuple and only_tuples(told))

    def test_no_more_come_than_were_kept(self):
        rng = random.Random(163)
        for web in webs_tried(164, 12):
            order = drawn_order(rng, web[0])
            kept = set(kept_lot(web, order))
            for ward in lots_of(web[0])[1::2]:
                own = [pair for pair in web[1] if set(pair) <= set(ward)]
                for inside in all_plans((web[0], tuple(own)))[:12]:
                    pairs = tuple(pair for pair in at(web, ward) if rng.random() < 0.4)
                    now = set(apart(web, order, pairs, inside)) & set(ward)
                    self.assertLessEqual(len(now - kept), len(kept & set(ward)))
                    some = [person for person in ward if rng.random() < 0.5]
                    wholly = set(apart(web, order, tuple(at(web, some)), inside)) & set(ward)
                    self.assertLessEqual(len(wholly) - len(kept & set(ward)), len(inside))

    def test_best_apart(self):
        rng = random.Random(165)
        gained = 0
        for web in webs_tried(166, 40):
            order = drawn_order(rng, web[0])
            for ward in lots_of(web[0]):
                own = (web[0], tuple(pair for pair in web[1] if set(pair) <= set(ward)))
                counts = {plan: len(set(apart(web, order, (), plan)) & set(ward)) for plan in all_plans(own)}
                for most in (len(counts), len(counts) + 7, 10 ** 999):
                    told = best_apart(web=web, order=order, ward=ward, most=most)
                    self.assertTrue(type(told) is tuple and only_tuples(told) and len(told) == 2)
                    self.assertEqual(told[0], max(counts.values()))
                    self.assertEqual(counts.get(told[1]), told[0])
                for most in {len(counts) - 1, 0}:
                    self.refused(most, best_apart, web, order, ward, most)
                gained += told[0] > counts[()]
        self.assertGreater(gained, 30)

    def test_hiding_besides_gains_no_more(self):
        rng = random.Random(167)
        for web in list(drawn_webs(168, 15, 5, 6)):
            order = drawn_order(rng, web[0])
            for ward in lots_of(web[0])[::3]:
                most, _ = best_apart(web, order, ward, 10 ** 6)
                own = (web[0], tuple(pair for pair in web[1] if set(pair) <= set(ward)))
                for some in lots_of(web[0]):
                    if set(some) <= set(ward):
                        for plan in all_plans(own):
                            now = set(apart(web, order, tuple(at(web, some)), plan)) & set(ward)
                            self.assertLessEqual(len(now), most)

    def test_edges_of_wards(self):
        web, order = (4, ((0, 1), (1, 2))), (0, 1, 2, 3)
        self.assertEqual(best_apart(web, order, (1, 2), 9), (2, ((1, 2),)))
        self.assertEqual(best_apart(web, order, (1, 2), 2), (2, ((1, 2),)))
        self.refused(1, best_apart, web, order, (1, 2), 1)
        self.assertEqual(best_apart(web, order, (), 1), (0, ()))
        self.assertEqual(best_apart(web, order, (3,), 1), (0, ()))
        self.assertEqual(apart(web, order, (), ()), (0, 1))
        self.assertEqual(apart(web, order, ((0, 1),), ()), (1, 2))
        self.assertEqual(apart(web, order, web[1], ()), ())
