"""Promise [44]: shares and prices that meet."""

import random
import unittest

from givesifgets.errors import Refused
from givesifgets.shares import are_shares, shares_of
from tests.plain import ODD_VALUES, all_values_near, only_tuples
from tests.plainpacks import (LIMITS, all_packs, drawn_arcs, drawn_weights, people_of_pack, plain_pieces, small_arcs,
                              users, weight, whole_arcs)

# three rings of two people each, any two with a person in common
TRIANGLE = (3, ((0, 1), (0, 2), (1, 0), (1, 2), (2, 0), (2, 1)), ())
CHAINED = (4, ((0, 1), (1, 0), (1, 2), (2, 3), (3, 2)), ((0, 2), (2,)))


def is_integer(value):
    return type(value) is int


def plain_meets(arcs, limits, weights, value, pieces):
    """Whether any value is shares and prices that meet, by the words of the document."""
    n, _, lots = arcs
    if type(value) is not tuple or len(value) != 4:
        return False
    d, shares, people, givers = value
    if not is_integer(d) or d < 1 or type(shares) is not tuple or type(people) is not tuple or type(givers) is not tuple:
        return False
    if len(people) != n or len(givers) != len(lots):
        return False
    if not all(is_integer(price) and price >= 0 for price in people + givers):
        return False
    known = {repr(piece) for piece in pieces}
    for share in shares:
        if type(share) is not tuple or len(share) != 2 or repr(share[0]) not in known:
            return False
        if not is_integer(share[1]) or share[1] < 1:
            return False
    if sorted(shares) != list(shares) or len({share[0] for share in shares}) != len(shares):
        return False
    for user in list(range(n)) + [("giver", g) for g in range(len(lots))]:
        if sum(many for piece, many in shares if user in users(piece)) > d:
            return False
    for piece in pieces:
        paid = sum(givers[user[1]] if type(user) is tuple else people[user] for user in users(piece))
        if paid < d * weight(weights, piece[-1]):
            return False
    return sum(many * weight(weights, piece[-1]) for piece, many in shares) == sum(people + givers)


class Shares(unittest.TestCase):
    def look(self, arcs, limits, weights):
        pieces = plain_pieces(arcs, limits)
        told = shares_of(arcs=arcs, limits=limits, weights=weights)
        self.assertTrue(only_tuples(told))
        self.assertTrue(plain_meets(arcs, limits, weights, told, pieces), (arcs, limits, weights, told))
        self.assertIs(are_shares(arcs=arcs, limits=limits, weights=weights, value=told), True)
        return told

    def test_small_arcs(self):
        """All limits; weights that are 0, equal, great; no pieces at all, no people."""
        rng = random.Random(191)
        broken = 0
        for arcs in small_arcs(192, 120):
            for limits in LIMITS if arcs[0] > 2 else LIMITS[:2]:
                for weights in {(0,) * arcs[0], (1,) * arcs[0], drawn_weights(rng, arcs[0]), drawn_weights(rng, arcs[0])}:
                    broken += self.look(arcs, limits, weights)[0] > 1
        self.assertGreater(broken, 50)
        self.assertEqual(self.look((0, (), ()), (2, 1), ()), (1, (), (), ()))
        self.assertEqual(self.look((0, (), ((), ())), (2, 1), ()), (1, (), (), (0, 0)))
        self.assertEqual(self.look((2, ((0, 1),), ((),)), (4, 4), (7, 8))[1], ())

    def test_odd_rings_of_pieces(self):
        told = self.look(TRIANGLE, (2, 1), (1, 1, 1))
        self.assertGreater(told[0], 1)
        self.assertEqual(2 * sum(told[2]), 2 * 3 * told[0])
        self.assertEqual({piece for piece, _ in told[1]}, {("ring", (0, 1)), ("ring", (0, 2)), ("ring", (1, 2))})
        self.assertIs(are_shares(TRIANGLE, (2, 1), (1, 1, 1), (2, tuple(
            (("ring", pair), 1) for pair in ((0, 1), (0, 2), (1, 2))), (2, 2, 2), ())), True)
        # no prices with d as 1 meet, whichever shares are told
        pieces = plain_pieces(TRIANGLE, (2, 1))
        for pack in all_packs(pieces):
            for prices in [(a, b, c) for a in range(4) for b in range(4) for c in range(4)]:
                value = (1, tuple((piece, 1) for piece in pack), prices, ())
                self.assertIs(are_shares(TRIANGLE, (2, 1), (1, 1, 1), value), False)
        for n in (5, 7):
            self.assertGreater(self.look(whole_arcs(n), (2, 1), (1,) * n)[0], 1)

    def test_no_pack_weighs_more(self):
        rng = random.Random(193)
        for arcs in small_arcs(194, 60):
            limits, weights = rng.choice(LIMITS), drawn_weights(rng, arcs[0])
            packs = all_packs(plain_pieces(arcs, limits))
            best = max(weight(weights, people_of_pack(pack)) for pack in packs)
            d, shares, people, givers = shares_of(arcs, limits, weights)
            self.assertLessEqual(d * best, sum(people + givers))
            if all(share == d for _, share in shares):
                pack = tuple(piece for piece, _ in shares)
                self.assertIn(pack, packs)
                self.assertEqual(weight(weights, people_of_pack(pack)), best)

    def changed(self, told):
        d, shares, people, givers = told
        for times in (2, 3, 10 ** 50):
            yield (d * times, tuple((piece, share * times) for piece, share in shares),
                   tuple(price * times for price in people), tuple(price * times for price in givers))
        for more in (1, -1):
            yield (d + more, shares, people, givers)
            for at, (piece, share) in enumerate(shares):
                yield (d, shares[:at] + ((piece, share + more),) + shares[at + 1:], people, givers)
            for at, price in enumerate(people):
                yield (d, shares, people[:at] + (price + more,) + people[at + 1:], givers)
                for to, other in enumerate(people):
                    if to != at:
                        row = list(people)
                        row[at], row[to] = price + more, other - more
                        yield (d, shares, tuple(row), givers)
            for at, price in enumerate(givers):
                yield (d, shares, people, givers[:at] + (price + more,) + givers[at + 1:])
        yield (d, shares[::-1], people, givers)
        yield (d, shares + shares[:1], people, givers)
        yield (d, shares[:1] + shares, people, givers)
        yield (d, tuple(share for share in shares for _ in (0, 1)), people, givers)
        for at, (piece, share) in enumerate(shares):
            yield (d, shares[:at] + ((piece, True),) + shares[at + 1:], people, givers)
            yield (d, shares[:at] + ((piece, share), (piece, share)) + shares[at + 1:], people, givers)
            yield (d, shares[:at] + ([piece, share],) + shares[at + 1:], people, givers)
            yield (d, shares[:at] + ((list(piece), share),) + shares[at + 1:], people, givers)
        yield (d, shares, givers, people)
        yield (d, shares, people)
        yield (d, shares, people, givers, ())
        for value in (True, 0, -1, None, "1", 1.0, (1,)):
            yield (value, shares, people, givers)
        yield (0, (), (0,) * len(people), (0,) * len(givers))
        yield (-1, (), (0,) * len(people), (0,) * len(givers))
        yield (1, (), (0,) * len(people), (0,) * len(givers))
        yield (1, (), (False,) * len(people), givers)
        yield (d, list(shares), people, givers)
        yield (d, shares, list(people), list(givers))
        yield [d, shares, people, givers]

    def test_values_near(self):
        rng = random.Random(195)
        seen = {True: 0, False: 0}
        drawn = [drawn_arcs(rng, rng.randint(2, 4), 0.7, rng.choice((0, 1, 2))) for _ in range(12)]
        for arcs in [TRIANGLE, CHAINED, (0, (), ()), (2, (), ((),))] + drawn:
            limits = rng.choice(((2, 1), (2, 2), (3, 2)))
            for weights in ((1,) * arcs[0], drawn_weights(rng, arcs[0])):
                pieces = plain_pieces(arcs, limits)
                told = shares_of(arcs, limits, weights)
                for value in list(self.changed(told)) + list(all_values_near([told])):
                    wanted = plain_meets(arcs, limits, weights, value, pieces)
                    self.assertIs(are_shares(arcs, limits, weights, value), wanted, value)
                    seen[wanted] += 1
        self.assertGreater(seen[True], 100)
        self.assertGreater(seen[False], 3000)

    def test_odd_values(self):
        meeting = "(1, (), (0, 0, 0), ())"
        for odd in ODD_VALUES:
            for value in (odd, (odd,) * 4, (odd, (), (0, 0, 0), ()), (1, odd, (0, 0, 0), ()), (1, (), odd, ()),
                          (1, (), (0, 0, 0), odd), (1, (), (0, odd, 0), ()), (1, (odd,), (0, 0, 0), ()),
                          (1, ((odd, 1),), (0, 0, 0), ()), (1, ((("ring", (0, 1)), odd),), (0, 0, 0), ())):
                told = are_shares(TRIANGLE, (2, 1), (0, 0, 0), value)
                pieces = plain_pieces(TRIANGLE, (2, 1))
                self.assertIs(told, plain_meets(TRIANGLE, (2, 1), (0, 0, 0), value, pieces), value)
                self.assertTrue(told or repr(value) != meeting)

    def test_fourteen_people_and_fifteen(self):
        rng = random.Random(196)
        many = [whole_arcs(14, 2), whole_arcs(13), drawn_arcs(rng, 14, 0.3, 120, 0.3)]
        for arcs in many + [drawn_arcs(rng, 14, share, givers) for share in (0.1, 0.3, 0.7) for givers in (0, 3)]:
            for limits in ((2, 1), (3, 2), (4, 4)):
                weights = tuple(rng.randint(1, rng.choice((1, 9, 10 ** 900))) for _ in range(14))[:arcs[0]]
                told = shares_of(arcs, limits, weights)
                self.assertIs(are_shares(arcs, limits, weights, told), True)
                d, shares, people, givers = told
                self.assertIs(are_shares(arcs, limits, weights, (d + 1, shares, people, givers)), False)
        for n in (15, 60):
            arcs = (n, ((0, 1),), ())
            for function, more in ((shares_of, ()), (are_shares, (None,)), (are_shares, ((1, (), (0,) * n, ()),))):
                with self.assertRaises(Refused) as caught:
                    function(arcs, (2, 1), (0,) * n, *more)
                self.assertEqual(caught.exception.at, n)
