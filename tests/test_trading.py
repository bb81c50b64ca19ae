"""Promises [50] to [52]: deals, rounds and the trade, lots that gain."""

import itertools
import random
import unittest

from givesifgets.gaining import gaining, is_gaining
from givesifgets.trading import deal_rings, is_deal, prefers, rounds, trade
from tests.plain import ODD_VALUES, all_values_near, drawn_order, lots_of, only_tuples

WISHES = ((2, 1, 0), (2, 0, 1), (1, 3, 0, 2), (2, 3))


def all_wishes(n):
    """All wishes of n people."""
    rows = []
    for person in range(n):
        others = [other for other in range(n) if other != person]
        rows.append([row + (person,) for size in range(n) for row in itertools.permutations(others, size)])
    return itertools.product(*rows)


def drawn_wishes(rng, n, longest=None):
    wishes = []
    for person in range(n):
        others = [other for other in range(n) if other != person]
        many = rng.randint(0, min(len(others), n if longest is None else longest))
        wishes.append(tuple(rng.sample(others, many)) + (person,))
    return tuple(wishes)


def long_ring(n):
    """Each one wants its next one alone: one long ring."""
    return tuple(((person + 1) % n, person) if n > 1 else (person,) for person in range(n))


def wishes_tried(seed, many=150):
    for n in range(3):
        yield from all_wishes(n)
    yield from all_wishes(3)
    rng = random.Random(seed)
    for _ in range(many):
        yield drawn_wishes(rng, rng.randint(4, 7))


def all_deals(wishes):
    return [deal for deal in itertools.product(*wishes) if len(set(deal)) == len(deal)]


def some_deals(rng, wishes):
    if len(wishes) < 5:
        return all_deals(wishes)
    deals = [tuple(range(len(wishes))), trade(wishes)]
    for _ in range(4):
        # people take what is left, in some order; whoever is taken by another must find somebody, too
        for _ in range(50):
            left, deal = set(range(len(wishes))), {}
            for person in drawn_order(rng, len(wishes)):
                ahead = [other for other in wishes[person] if other in left]
                if not ahead:
                    break
                deal[person] = rng.choice(ahead)
                left.discard(deal[person])
            else:
                deals.append(tuple(deal[person] for person in range(len(wishes))))
                break
    return deals


def plain_prefers(wishes, person, one, other):
    rank = {thing: at for at, thing in enumerate(wishes[person])}
    return one in rank and rank[one] < rank.get(other, len(wishes) + 1)


def plain_rounds(wishes):
    """Rounds, each person's ring found by going along from it until it comes again or somebody else does twice."""
    left = set(range(len(wishes)))
    told = []
    while left:
        ahead = {person: next(other for other in wishes[person] if other in left) for person in left}
        rings = set()
        for person in left:
            row, now = [person], ahead[person]
            while now not in row:
                row.append(now)
                now = ahead[now]
            if now == person and person == min(row):
                rings.add((person,) + tuple(row[:0:-1]))
        told.append(tuple(sorted(rings)))
        left -= {person for ring in rings for person in ring}
    return tuple(told)


def plain_trade(wishes, rng):
    """The deal if rings go one by one, whichever first."""
    left, deal = set(range(len(wishes))), {}
    while left:
        ahead = {person: next(other for other in wishes[person] if other in left) for person in left}
        person = rng.choice(sorted(left))
        row = []
        while person not in row:
            row.append(person)
            person = ahead[person]
        for person in row[row.index(person):]:
            deal[person] = ahead[person]
            left.discard(person)
    return tuple(deal[person] for person in range(len(wishes)))


def plain_gains(wishes, deal, lot, shares):
    """Whether a lot with some shares gains."""
    worse = [plain_prefers(wishes, person, deal[person], share) for person, share in zip(lot, shares)]
    better = [plain_prefers(wishes, person, share, deal[person]) for person, share in zip(lot, shares)]
    return not any(worse) and any(better)


def plain_gaining(wishes, deal):
    """All pairs that gain."""
    found = []
    for lot in lots_of(len(wishes)):
        rows = [[other for other in wishes[person] if other in lot] for person in lot]
        for shares in itertools.product(*rows):
            if len(set(shares)) == len(shares) and plain_gains(wishes, deal, lot, shares):
                found.append((lot, shares))
    return found


class Deals(unittest.TestCase):
    def test_is_deal(self):
        rng = random.Random(281)
        for wishes in wishes_tried(282, 20):
            n = len(wishes)
            deals = set(all_deals(wishes)) if n < 6 else None
            for value in itertools.product(range(n), repeat=n) if n < 5 else [drawn_order(rng, n) for _ in range(30)]:
                wanted = all(share in row for share, row in zip(value, wishes)) and len(set(value)) == n
                self.assertIs(is_deal(wishes=wishes, value=value), wanted)
                self.assertTrue(deals is None or (value in deals) == wanted)

    def test_values_near_deals(self):
        rng = random.Random(283)
        seen = {True: 0, False: 0}
        for wishes in [WISHES, (), ((0,),), ((1, 0), (0, 1))] + [drawn_wishes(rng, 4) for _ in range(8)]:
            deals = {repr(deal) for deal in all_deals(wishes)}
            near = [deal[:at] + (share,) + deal[at + 1:] for deal in all_deals(wishes)[:9] for at in range(len(deal))
                    for share in list(range(-1, len(wishes) + 1)) + [True, False, None, 1.0]]
            for value in near + list(all_values_near(all_deals(wishes)[:5])) + [(odd,) for odd in ODD_VALUES]:
                self.assertIs(is_deal(wishes, value), repr(value) in deals, value)
                seen[repr(value) in deals] += 1
        self.assertGreater(min(seen.values()), 100)

    def test_prefers(self):
        for wishes in wishes_tried(284, 15):
            people = range(len(wishes))
            for person, one, other in itertools.product(people, people, people):
                told = prefers(wishes=wishes, person=person, one=one, other=other)
                self.assertIs(told, plain_prefers(wishes, person, one, other))
        # the row of 3 is (2, 3): 0 and 1 do not stand in it
        wanted = {(2, 3), (2, 0), (2, 1), (3, 0), (3, 1)}
        for one, other in itertools.product(range(4), range(4)):
            self.assertIs(prefers(WISHES, 3, one, other), (one, other) in wanted)

    def test_deal_rings(self):
        rng = random.Random(285)
        for n in range(8):
            every = itertools.permutations(range(n)) if n < 6 else [drawn_order(rng, n) for _ in range(60)]
            for deal in every:
                told = deal_rings(deal=deal)
                self.assertTrue(type(told) is tuple and only_tuples(told))
                self.assertEqual(told, tuple(sorted(told)))
                people = [person for ring in told for person in ring]
                self.assertEqual(sorted(people), [person for person in range(n) if deal[person] != person])
                for ring in told:
                    self.assertGreaterEqual(len(ring), 2)
                    self.assertEqual(ring[0], min(ring))
                    for at, person in enumerate(ring):
                        # a person's friend gives to the next one
                        self.assertEqual(deal[ring[(at + 1) % len(ring)]], person)
        self.assertEqual(deal_rings((2, 0, 1, 3)), ((0, 1, 2),))
        self.assertEqual(deal_rings((1, 2, 0)), ((0, 2, 1),))
        self.assertEqual(deal_rings((1, 0, 3, 2)), ((0, 1), (2, 3)))


class Rounds(unittest.TestCase):
    def test_rounds(self):
        rng = random.Random(291)
        for wishes in list(wishes_tried(292)) + [drawn_wishes(rng, 60), drawn_wishes(rng, 60, 3), long_ring(60)]:
            told = rounds(wishes=wishes)
            self.assertTrue(type(told) is tuple and only_tuples(told))
            self.assertEqual(told, plain_rounds(wishes))
            people = [person for rings in told for ring in rings for person in ring]
            self.assertEqual(sorted(people), list(range(len(wishes))))

    def test_trade(self):
        rng = random.Random(293)
        for wishes in list(wishes_tried(294)) + [drawn_wishes(rng, 60), drawn_wishes(rng, 60, 3), long_ring(60)]:
            told = trade(wishes=wishes)
            self.assertTrue(type(told) is tuple and only_tuples(told))
            self.assertIs(is_deal(wishes, told), True)
            for _ in range(3):
                self.assertEqual(told, plain_trade(wishes, rng))
            rings = {ring for row in rounds(wishes) for ring in row if len(ring) > 1}
            self.assertEqual(set(deal_rings(told)), rings)

    def test_a_persons_round(self):
        """It is the first one behind those of all whom somebody in its ring prefers to its share."""
        for wishes in wishes_tried(295):
            deal, told = trade(wishes), rounds(wishes)
            at = {person: place for place, rings in enumerate(told) for ring in rings for person in ring}
            for place, rings in enumerate(told):
                for ring in rings:
                    ahead = [at[q] for p in ring for q in wishes[p] if plain_prefers(wishes, p, q, deal[p])]
                    self.assertEqual(place, max(ahead, default=-1) + 1)

    def test_other_names(self):
        rng = random.Random(296)
        for wishes in wishes_tried(297):
            n = len(wishes)
            names = drawn_order(rng, n)
            renamed, shares = [None] * n, [None] * n
            for person in range(n):
                renamed[names[person]] = tuple(names[other] for other in wishes[person])
                shares[names[person]] = names[trade(wishes)[person]]
            self.assertEqual(trade(tuple(renamed)), tuple(shares))
            wanted = []
            for rings in rounds(wishes):
                row = [[names[person] for person in ring] for ring in rings]
                row = [ring[ring.index(min(ring)):] + ring[:ring.index(min(ring))] for ring in row]
                wanted.append(tuple(sorted(map(tuple, row))))
            self.assertEqual(rounds(tuple(renamed)), tuple(wanted))

    def test_edges(self):
        self.assertEqual((rounds(()), trade(())), ((), ()))
        self.assertEqual((rounds(((0,),)), trade(((0,),))), ((((0,),),), (0,)))
        ring = long_ring(60)
        self.assertEqual(rounds(ring), (((((0,) + tuple(range(59, 0, -1))),)),))
        self.assertEqual(trade(ring), tuple((person + 1) % 60 for person in range(60)))
        # each wants the one before, whose friend is gone: one round for each
        chain = ((0,),) + tuple((person - 1, person) for person in range(1, 60))
        self.assertEqual(rounds(chain)[0], ((0,),))
        self.assertEqual(len(rounds(chain)), 60)
        self.assertEqual(trade(chain), tuple(range(60)))


class Gaining(unittest.TestCase):
    def test_is_gaining(self):
        """All lots and shares, over each deal of small wishes."""
        rng = random.Random(301)
        gained = 0
        for wishes in [w for n in range(3) for w in all_wishes(n)] + list(all_wishes(3)) + [WISHES] + [
                drawn_wishes(rng, 4) for _ in range(60)]:
            n = len(wishes)
            deals = all_deals(wishes)
            for deal in deals if len(deals) < 8 else rng.sample(deals, 8):
                wanted = set(plain_gaining(wishes, deal))
                for lot in lots_of(n):
                    for shares in itertools.product(range(n), repeat=len(lot)):
                        told = is_gaining(wishes=wishes, deal=deal, value=(lot, shares))
                        self.assertIs(told, (lot, shares) in wanted)
                        gained += told
                self.assertIs(is_gaining(wishes, deal, ((), ())), False)
        self.assertGreater(gained, 300)

    def test_values_near(self):
        rng = random.Random(302)
        seen = {True: 0, False: 0}
        for wishes in [WISHES, ((1, 0), (0, 1)), ((0,),), ()] + [drawn_wishes(rng, 4) for _ in range(8)]:
            deal = tuple(range(len(wishes)))
            wanted = {repr(pair) for pair in plain_gaining(wishes, deal)}
            pairs = sorted(plain_gaining(wishes, deal))
            values = [thing for pair in pairs[:4] for thing in (
                list(pair), (list(pair[0]), pair[1]), (pair[0], list(pair[1])), (pair[0][::-1], pair[1][::-1]),
                (pair[0] * 2, pair[1] * 2), (pair[0], pair[1] + (0,)), (pair[0] + (99,), pair[1] + (99,)), pair[::-1],
                (tuple(map(bool, pair[0])), pair[1]), (pair[0], tuple(map(bool, pair[1]))), (pair[0], ()))]
            for value in values + pairs + list(all_values_near(pairs[:3])) + [(odd, odd) for odd in ODD_VALUES] + [
                    ((0, 1), odd) for odd in ODD_VALUES] + [(odd, (1, 0)) for odd in ODD_VALUES]:
                self.assertIs(is_gaining(wishes, deal, value), repr(value) in wanted, value)
                seen[repr(value) in wanted] += 1
        self.assertGreater(min(seen.values()), 30)

    def test_gaining(self):
        rng = random.Random(303)
        for wishes in wishes_tried(304):
            best = trade(wishes)
            deals = some_deals(rng, wishes)
            for deal in deals if len(deals) < 30 else rng.sample(deals, 30):
                told = gaining(wishes=wishes, deal=deal)
                if deal == best:
                    self.assertIsNone(told)
                    self.assertTrue(len(wishes) > 5 or plain_gaining(wishes, deal) == [])
                    continue
                self.assertTrue(type(told) is tuple and only_tuples(told))
                lot, shares = told
                self.assertTrue(plain_gains(wishes, deal, lot, shares))
                self.assertEqual(sorted(shares), list(lot))
                self.assertTrue(all(share in wishes[person] for person, share in zip(lot, shares)))
                self.assertIs(is_gaining(wishes, deal, told), True)

    def test_some_ring_of_the_rounds_gains(self):
        rng = random.Random(305)
        for wishes in wishes_tried(306, 20):
            best = trade(wishes)
            rings = [tuple(sorted(ring)) for row in rounds(wishes) for ring in row]
            for deal in some_deals(rng, wishes)[:20]:
                gains = [lot for lot in rings if is_gaining(wishes, deal, (lot, tuple(best[p] for p in lot)))]
                self.assertEqual(gains == [], deal == best)

    def test_sixty_people(self):
        rng = random.Random(307)
        for wishes in (long_ring(60), drawn_wishes(rng, 60), drawn_wishes(rng, 60, 4)):
            self.assertIsNone(gaining(wishes, trade(wishes)))
            deal = tuple(range(60))
            told = gaining(wishes, deal)
            self.assertEqual(told is None, trade(wishes) == deal)
            self.assertTrue(told is None or is_gaining(wishes, deal, told))
