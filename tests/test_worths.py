"""Promises [33] and [34]: worths of lots, and moves in the order of needs."""

import itertools
import random
import unittest

from givesifgets.bases import rivals
from givesifgets.kept import kept_lot
from givesifgets.keptpapers import beginnings
from givesifgets.moves import after_move, moved_ahead
from givesifgets.worths import dearest_lot, falls_along, order_of_worths, worth_of
from tests.plain import Tried, all_webs, drawn_order, drawn_web, drawn_webs, lots_of, only_tuples
from tests.test_search import SHAPES

GREAT = 10 ** 999


def webs_tried(seed):
    for n in range(5):
        yield from all_webs(n)
    yield from list(all_webs(5))[::5]
    yield from SHAPES
    yield from drawn_webs(seed, 60, 6, 8)


def drawn_worths(rng, n):
    top = rng.choice((0, 1, 2, 5, 1000, GREAT))
    return tuple(rng.randint(0, top) for _ in range(n))


def most_worth(tried, worths):
    """The greatest worth of a servable lot: worths are not negative, so of those whom a plan serves."""
    return max(sum(worths[p] for p in range(tried.n) if mask >> p & 1) for mask in tried.masks)


class Worths(unittest.TestCase):
    def test_worth_of(self):
        rng = random.Random(101)
        for n in range(7):
            for _ in range(5):
                worths = drawn_worths(rng, n)
                for lot in lots_of(n):
                    total = 0
                    for person in lot:
                        total += worths[person]
                    self.assertEqual(worth_of(lot=lot, worths=worths), total)
        self.assertEqual(worth_of((), ()), 0)
        self.assertEqual(worth_of((0, 2), (GREAT, 5, GREAT)), 2 * GREAT)

    def test_falls_along(self):
        rng = random.Random(102)
        seen = {True: 0, False: 0}
        for n in range(6):
            for _ in range(60):
                order, worths = drawn_order(rng, n), drawn_worths(rng, n)
                if rng.random() < 0.5:
                    order = order_of_worths(worths)
                wanted = all(worths[p] >= worths[q] for p, q in itertools.combinations(order, 2))
                told = falls_along(order=order, worths=worths)
                self.assertIs(told, wanted)
                seen[told] += 1
        self.assertGreater(min(seen.values()), 30)
        self.assertIs(falls_along((), ()), True)
        self.assertIs(falls_along((1, 0), (3, 3)), True)
        self.assertIs(falls_along((1, 0), (3, 2)), False)

    def test_order_of_worths(self):
        rng = random.Random(103)
        for n in range(7):
            for _ in range(30):
                worths = drawn_worths(rng, n)
                told = order_of_worths(worths=worths)
                self.assertTrue(type(told) is tuple and only_tuples(told))
                self.assertEqual(told, tuple(sorted(range(n), key=lambda person: (-worths[person], person))))
                self.assertIs(falls_along(told, worths), True)
        self.assertEqual(order_of_worths((4, 4, 4)), (0, 1, 2))
        self.assertEqual(order_of_worths((0, 7, 0, GREAT, 7)), (3, 1, 4, 0, 2))
        self.assertEqual(order_of_worths(()), ())

    def test_kept_lot_is_worth_most(self):
        """For whatever worths fall along the order, also equal, zero and very great ones."""
        rng = random.Random(104)
        for web in webs_tried(105):
            tried = Tried(web)
            order = drawn_order(rng, web[0])
            kept, counts = kept_lot(web, order), beginnings(web, order)
            for _ in range(4):
                row = sorted(drawn_worths(rng, web[0]), reverse=True)
                worths = tuple(row[order.index(person)] for person in range(web[0]))
                self.assertIs(falls_along(order, worths), True)
                self.assertEqual(worth_of(kept, worths), most_worth(tried, worths))
                falls = [worth - behind for worth, behind in zip(row, row[1:] + [0])]
                self.assertEqual(worth_of(kept, worths), sum(c * fall for c, fall in zip(counts[1:], falls)))

    def test_dearest_lot(self):
        rng = random.Random(106)
        for web in webs_tried(107):
            tried = Tried(web)
            for _ in range(4):
                worths = drawn_worths(rng, web[0])
                told = dearest_lot(web=web, worths=worths)
                self.assertTrue(type(told) is tuple and only_tuples(told))
                self.assertEqual(worth_of(told, worths), most_worth(tried, worths))
                self.assertEqual(told, tried.kept(order_of_worths(worths)))
                self.assertIn(told, tried.bases())

    def test_equal_and_zero_worths(self):
        web = (5, ((0, 1), (1, 2), (2, 3), (3, 4)))
        for worths in ((0,) * 5, (3,) * 5):
            self.assertEqual(dearest_lot(web, worths), (0, 1, 2, 3))
        self.assertEqual(dearest_lot(web, (0, 0, 0, 0, 1)), (0, 1, 3, 4))
        self.assertEqual(dearest_lot((0, ()), ()), ())

    def test_forty_people(self):
        rng = random.Random(108)
        for share in (0.03, 0.06, 0.3, 1.1):
            web = drawn_web(rng, 40, share)
            worths = drawn_worths(rng, 40)
            lot = dearest_lot(web, worths)
            self.assertEqual(lot, kept_lot(web, order_of_worths(worths)))
            order = drawn_order(rng, 40)
            kept = kept_lot(web, order)
            for person in rng.sample(range(40), 4):
                self.look_at_move(web, order, kept, person, rng.randint(0, order.index(person)))

    def look_at_move(self, web, order, kept, person, place):
        later = moved_ahead(order, person, place)
        told = after_move(web, order, person, place)
        if person in kept:
            self.assertIsNone(told)
            return
        behind = [other for other in rivals(web, kept, person) if later.index(other) > place]
        self.assertEqual(told, (person, max(behind, key=later.index)) if behind else None)


class Moves(unittest.TestCase):
    def test_moved_ahead(self):
        rng = random.Random(111)
        for n in range(1, 7):
            order = drawn_order(rng, n)
            for person in range(n):
                for place in range(order.index(person) + 1):
                    told = moved_ahead(order=order, person=person, place=place)
                    row = list(order)
                    row.remove(person)
                    row.insert(place, person)
                    self.assertEqual(told, tuple(row))
                    self.assertEqual(told[place], person)

    def test_after_move(self):
        """Each person to each place, on webs with odd rings, too, against the kept lots of both orders."""
        rng = random.Random(112)
        same = moved = 0
        for web in webs_tried(113):
            tried = Tried(web)
            order = drawn_order(rng, web[0])
            kept = tried.kept(order)
            for person in range(web[0]):
                for place in range(order.index(person) + 1):
                    now = tried.kept(moved_ahead(order, person, place))
                    come, gone = set(now) - set(kept), set(kept) - set(now)
                    told = after_move(web=web, order=order, person=person, place=place)
                    if now == kept:
                        self.assertIsNone(told)
                        same += 1
                    else:
                        self.assertEqual((come, gone), ({told[0]}, {told[1]}))
                        self.assertEqual(told[0], person)
                        self.assertTrue(type(told) is tuple and len(told) == 2)
                        moved += 1
        self.assertGreater(same, 1000)
        self.assertGreater(moved, 300)

    def test_who_comes_and_for_whom(self):
        rng = random.Random(114)
        for web in webs_tried(115):
            order = drawn_order(rng, web[0])
            kept = kept_lot(web, order)
            for person in range(web[0]):
                for place in range(order.index(person) + 1):
                    Worths.look_at_move(self, web, order, kept, person, place)
