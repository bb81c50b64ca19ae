"""Promise [45]: trees of prices."""

import itertools
import random
import unittest

from givesifgets.bestpacks import best_keeping
from givesifgets.errors import InvalidPlan, Refused
from givesifgets.packs import is_pack, served_by
from givesifgets.shares import shares_of
from givesifgets.trees import fault_of, tree_of
from tests.plain import ODD_VALUES, all_values_near, near_values, only_tuples
from tests.plainpacks import (LIMITS, all_packs, both_ways, drawn_arcs, drawn_weights, people_of_pack, plain_fits,
                              plain_pieces, plain_sources, small_arcs, users, weight, whole_arcs)

TRIANGLE = (3, ((0, 1), (0, 2), (1, 0), (1, 2), (2, 0), (2, 1)), ())
ENDS = tuple(("prices", 1, row, ()) for row in ((1, 1, 0), (1, 0, 1), (0, 1, 1)))
PAIR = (("ring", (0, 1)),)


def is_integer(value):
    return type(value) is int


def plain_end(arcs, weights, best, case, row, pieces):
    """Whether any value is a row of prices, by the words of the document."""
    if type(row) is not tuple or len(row) != 4 or row[0] != "prices":
        return False
    _, d, people, givers = row
    if not is_integer(d) or d < 1 or type(people) is not tuple or type(givers) is not tuple:
        return False
    if len(people) != arcs[0] or len(givers) != len(arcs[2]) or not all(is_integer(price) for price in people + givers):
        return False
    forced = [person for person, source in case if source != ("none",)]
    if any(price < 0 for price in givers) or any(people[p] < 0 for p in range(arcs[0]) if p not in forced):
        return False
    for piece in pieces:
        if plain_fits(case, piece):
            paid = sum(givers[user[1]] if type(user) is tuple else people[user] for user in users(piece))
            if paid < d * weight(weights, piece[-1]):
                return False
    return sum(people + givers) <= d * best


def plain_fault(arcs, weights, pack, tree, pieces):
    if type(tree) is not tuple:
        return 0
    best = weight(weights, people_of_pack(pack))
    pile = [()]
    for at, row in enumerate(tree):
        if not pile:
            return at
        case = pile.pop()
        asked = [person for person, _ in case]
        if type(row) is tuple and len(row) == 2 and row[0] == "who" and is_integer(row[1]):
            if row[1] in asked or not 0 <= row[1] < arcs[0]:
                return at
            for source in reversed(plain_sources(arcs, row[1])):
                pile.append(tuple(sorted(case + ((row[1], source),))))
        elif not plain_end(arcs, weights, best, case, row, pieces):
            return at
    return len(tree) if pile else None


def plain_prices(arcs, weights, case, pieces):
    """Prices with 1 as d for a case that has all people."""
    forced = [person for person, source in case if source != ("none",)]
    fitting = [piece for piece in pieces if plain_fits(case, piece)]
    lost = [person for person in forced if not any(person in piece[-1] for piece in fitting)]
    prices = [0] * arcs[0]
    for lot in {tuple(sorted(piece[-1])) for piece in fitting}:
        prices[lot[0]] += weight(weights, lot)
    if lost:
        prices[lost[0]] -= sum(prices)
    return ("prices", 1, tuple(prices), (0,) * len(arcs[2]))


def drawn_tree(rng, arcs, weights, best, pieces, case=()):
    """A tree in which people are asked in any order, until prices of a whole case, or by chance others, do."""
    left = [person for person in range(arcs[0]) if person not in [p for p, _ in case]]
    forced = [person for person, source in case if source != ("none",)]
    fitting = [piece for piece in pieces if plain_fits(case, piece)]
    prices = [0] * arcs[0]
    for piece in fitting:
        prices[piece[-1][0]] = max(prices[piece[-1][0]], weight(weights, piece[-1]))
    row = ("prices", 1, tuple(prices), (0,) * len(arcs[2]))
    if plain_end(arcs, weights, best, case, row, pieces):
        return (row,)
    if not left:
        return (plain_prices(arcs, weights, case, pieces),)
    person = rng.choice(left)
    rows = (("who", person),)
    for source in plain_sources(arcs, person):
        rows += drawn_tree(rng, arcs, weights, best, pieces, tuple(sorted(case + ((person, source),))))
    return rows


def spoilt_trees(rng, tree, n):
    """Trees with one row, or one thing in a row, spoilt."""
    for at, row in enumerate(tree):
        yield tree[:at] + tree[at + 1:]
        yield tree[:at] + (row, row) + tree[at + 1:]
        yield tree[:at]
        yield tree[:at] + (list(row),) + tree[at + 1:]
        rows = [None, (), ("who",), ("prices",), ("who", n), ("who", -1), ("who", True), ("who", 0.0), ("who", None)]
        rows += [("who", person) for person in range(n)] + [row + (0,), row[:-1], ("Who",) + row[1:], (row,)]
        if row[0] == "prices":
            _, d, people, givers = row
            rows += [("price", d, people, givers), ("who", d, people, givers), ("prices", 0, people, givers)]
            rows += [("prices", -d, people, givers), ("prices", True, people, givers), ("prices", d, list(people), givers)]
            rows += [("prices", d, people, list(givers)), ("prices", d, people + (0,), givers), ("prices", d, people)]
            rows += [("prices", d, people, givers + (0,)), ("prices", d + 1, people, givers)]
            for times in (2, 7):
                rows.append(("prices", d * times, tuple(p * times for p in people), tuple(g * times for g in givers)))
            for place, price in enumerate(people):
                for other in (price - 1, price + 1, -1, True, False, float(price), None, -price, price - 10 ** 30):
                    rows.append(("prices", d, people[:place] + (other,) + people[place + 1:], givers))
                for to in range(len(people)):
                    if to != place:
                        moved = list(people)
                        moved[place], moved[to] = price - 10, moved[to] + 10
                        rows.append(("prices", d, tuple(moved), givers))
            for place, price in enumerate(givers):
                for other in (price - 1, price + 1, -1, bool(price), float(price)):
                    rows.append(("prices", d, people, givers[:place] + (other,) + givers[place + 1:]))
        for other in rows:
            yield tree[:at] + (other,) + tree[at + 1:]
    yield tree + tree
    yield tree + (("who", 0),)
    yield tree[::-1]
    yield list(tree)
    yield ()


class Trees(unittest.TestCase):
    def look(self, arcs, limits, weights):
        told = tree_of(arcs=arcs, limits=limits, weights=weights)
        self.assertTrue(type(told) is tuple and len(told) == 2 and only_tuples(told))
        pack, tree = told
        self.assertIs(is_pack(arcs, limits, pack), True)
        self.assertIsNone(fault_of(arcs=arcs, limits=limits, weights=weights, pack=pack, tree=tree))
        return pack, tree

    def test_tree_of(self):
        rng = random.Random(221)
        long = 0
        pairs = [both_ways(rng, rng.randint(3, 6), 0.5, rng.choice((0, 0, 1))) for _ in range(120)]
        for arcs in list(small_arcs(222, 150)) + pairs:
            limits = (2, 1) if arcs in pairs else rng.choice(LIMITS)
            for weights in {(1,) * arcs[0], drawn_weights(rng, arcs[0])}:
                pack, tree = self.look(arcs, limits, weights)
                pieces = plain_pieces(arcs, limits)
                packs = all_packs(pieces)
                self.assertIn(pack, packs)
                self.assertEqual(weight(weights, people_of_pack(pack)),
                                 max(weight(weights, people_of_pack(other)) for other in packs))
                self.assertIsNone(plain_fault(arcs, weights, pack, tree, pieces))
                long += len(tree) > 1
        self.assertGreater(long, 20)

    def test_odd_rings(self):
        """Rings of two in which all make pairs: whatever prices there are, some people must be asked."""
        for n in (3, 5, 7):
            for weights in ((1,) * n, (10 ** 60,) * n, tuple(range(1, n + 1))):
                _, tree = self.look(whole_arcs(n), (2, 1), weights)
                self.assertGreater(len(tree), n)
        self.assertEqual(tree_of((0, (), ()), (2, 1), ()), ((), (("prices", 1, (), ()),)))

    def test_chains_shared_in_parts(self):
        """Trees that ask, where chains, too, have but part of their people."""
        rng = random.Random(228)
        parted = long = 0
        for _ in range(8000):
            n, limits = rng.randint(4, 6), rng.choice(((2, 2), (3, 2), (4, 2), (3, 3), (4, 4)))
            arcs = drawn_arcs(rng, n, rng.choice((0.2, 0.3)), rng.choice((1, 2, 3)), 0.3)
            weights = drawn_weights(rng, n)
            d, shares, _, _ = shares_of(arcs, limits, weights)
            if any(piece[0] == "chain" and share < d for piece, share in shares):
                pack, tree = self.look(arcs, limits, weights)
                self.assertIsNone(plain_fault(arcs, weights, pack, tree, plain_pieces(arcs, limits)))
                parted += 1
                long += len(tree) > 1
        self.assertGreater(parted, 100)
        self.assertGreater(long, 8)

    def test_any_pack_as_heavy_has_a_tree(self):
        rng = random.Random(223)
        for arcs in small_arcs(224, 50, 4):
            limits, weights = rng.choice(LIMITS), drawn_weights(rng, arcs[0])
            pack, tree = tree_of(arcs, limits, weights)
            best = weight(weights, served_by(pack))
            for other in all_packs(plain_pieces(arcs, limits))[:60]:
                equal = weight(weights, people_of_pack(other)) == best
                told = fault_of(arcs, limits, weights, tuple(sorted(other)), tree)
                self.assertEqual(told is None, equal)

    def test_people_asked_in_any_order(self):
        rng = random.Random(225)
        long = 0
        for arcs in [TRIANGLE] * 5 + [whole_arcs(3, 1)] * 3 + [drawn_arcs(rng, 4, 0.5, 1) for _ in range(60)]:
            limits = rng.choice(((2, 1), (3, 2), (3, 1)))
            pieces = plain_pieces(arcs, limits)
            weights = rng.choice(((1,) * arcs[0], drawn_weights(rng, arcs[0])))
            pack = best_keeping(arcs, limits, weights, ())
            best = weight(weights, served_by(pack))
            tree = drawn_tree(rng, arcs, weights, best, pieces)
            self.assertIsNone(plain_fault(arcs, weights, pack, tree, pieces))
            self.assertIsNone(fault_of(arcs, limits, weights, pack, tree), (arcs, weights, tree))
            long += len(tree) > 10
        self.assertGreater(long, 10)

    def test_spoilt_trees(self):
        rng = random.Random(226)
        faults = {}
        drawn = [drawn_arcs(rng, rng.choice((2, 3)), 0.8, rng.choice((0, 1, 2))) for _ in range(12)]
        for arcs in [TRIANGLE, TRIANGLE, whole_arcs(3, 1)] + drawn:
            for limits, weights in (((2, 1), (1,) * arcs[0]), ((3, 2), drawn_weights(rng, arcs[0]))):
                pieces = plain_pieces(arcs, limits)
                pack, tree = tree_of(arcs, limits, weights)
                best = weight(weights, served_by(pack))
                asked = drawn_tree(rng, arcs, weights, best, pieces)
                for one in (tree, asked):
                    values = list(spoilt_trees(rng, one[:30], arcs[0]))
                    values = values if len(values) < 600 else rng.sample(values, 600)
                    for value in values + rng.sample(list(near_values(one[:6])), 20):
                        wanted = plain_fault(arcs, weights, pack, value, pieces)
                        self.assertEqual(fault_of(arcs, limits, weights, pack, value), wanted, value)
                        faults[wanted] = faults.get(wanted, 0) + 1
        self.assertGreater(faults[None], 100)
        self.assertGreater(min(faults[at] for at in (0, 1, 2, 3, 4)), 30)

    def test_named_faults(self):
        for tree, told in ((ENDS, 0), ((("who", 0),) + ENDS, None), ((("who", 0),) + ENDS[:2], 3), ((), 0),
                           ((("who", 0),) + ENDS * 2, 4), ((("who", 0),) + ENDS + (("who", 1),), 4),
                           ((("who", 0), ("who", 0)), 1), ((("who", 3),), 0), (list((("who", 0),) + ENDS), 0),
                           ((("who", 0), ENDS[0], list(ENDS[1]), ENDS[2]), 2), ((("who", 0),), 1), (None, 0)):
            self.assertEqual(fault_of(TRIANGLE, (2, 1), (1, 1, 1), PAIR, tree), told, tree)

    def test_prices_below_0(self):
        """A price may be below 0 for whom the case gives a source other than none, and for nobody else."""
        # 0 gets from 1, from 2, from nobody
        who = ("who", 0)
        good = (("prices", 1, (-1, 3, 0), ()), ("prices", 1, (-1, 0, 3), ()), ("prices", 1, (0, 1, 1), ()))
        self.assertIsNone(fault_of(TRIANGLE, (2, 1), (1, 1, 1), PAIR, (who,) + good))
        for at, row, told in ((0, (3, -1, 0), 1), (0, (3, 0, -1), 1), (1, (3, -1, 0), 2), (2, (-1, 1, 2), 3),
                              (2, (0, -1, 3), 3), (0, (2, 0, 0), None), (0, (2, 0, 1), 1), (1, (-5, 0, 7), None)):
            rows = good[:at] + (("prices", 1, row, ()),) + good[at + 1:]
            self.assertEqual(fault_of(TRIANGLE, (2, 1), (1, 1, 1), PAIR, (who,) + rows), told, row)
        self.assertEqual(fault_of(TRIANGLE, (2, 1), (1, 1, 1), PAIR, (("prices", 1, (-1, 2, 2), ()),)), 0)

    def test_no_packs(self):
        tree = (("who", 0),) + ENDS
        packs = {repr(pack) for pack in all_packs(plain_pieces(TRIANGLE, (2, 1)))}
        for pack in itertools.chain(all_values_near([PAIR]), [(("ring", (0, 1, 2)),), PAIR * 2]):
            if repr(pack) in packs:
                fault_of(TRIANGLE, (2, 1), (1, 1, 1), pack, tree)
            else:
                for value in (tree, None):
                    with self.assertRaises(InvalidPlan) as caught:
                        fault_of(TRIANGLE, (2, 1), (1, 1, 1), pack, value)
                    self.assertEqual(caught.exception.at, 3)

    def test_odd_values(self):
        pieces = plain_pieces(TRIANGLE, (2, 1))
        for odd in ODD_VALUES:
            for tree in (odd, (odd,), (("who", odd),), (("who", 0), odd), (("prices", odd, (1, 1, 0), ()),), (("who", 0), (
                    "prices", 1, odd, ())), (("prices", 1, (2, 2, 2), odd),), (("who", 0),) + ENDS + (odd,), (
                        ("who", 0), ("prices", 1, (odd, 2, 0), ())), (odd,) * 4, ((odd, 0),) + ENDS):
                wanted = plain_fault(TRIANGLE, (1, 1, 1), PAIR, tree, pieces)
                self.assertEqual(fault_of(TRIANGLE, (2, 1), (1, 1, 1), PAIR, tree), wanted, tree)

    def test_fourteen_people_and_fifteen(self):
        rng = random.Random(227)
        drawn = [drawn_arcs(rng, 14, share, givers, 0.3) for share in (0.1, 0.2, 0.4) for givers in (0, 2)]
        drawn += [whole_arcs(14, 2), whole_arcs(9), drawn_arcs(rng, 14, 0.2, 120, 0.2), both_ways(rng, 14, 0.2)]
        for arcs in drawn:
            for limits in ((2, 1), (3, 2), (4, 4)):
                weights = tuple(rng.randint(1, rng.choice((1, 5, 10 ** 300))) for _ in range(arcs[0]))
                pack, tree = self.look(arcs, limits, weights)
                self.assertEqual(fault_of(arcs, limits, weights, pack, tree[:-1]), len(tree) - 1)
                if pack:
                    self.assertIsNotNone(fault_of(arcs, limits, weights, pack[1:], tree))
        for n in (15, 60):
            arcs, weights = (n, ((0, 1), (1, 0)), ()), (0,) * n
            for function, more in ((tree_of, ()), (fault_of, ((), ())), (fault_of, (None, None))):
                with self.assertRaises(Refused) as caught:
                    function(arcs, (2, 1), weights, *more)
                self.assertEqual(caught.exception.at, n)
