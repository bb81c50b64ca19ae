"""Promises [53] and [54]: right prices, papers of deals, and what other words do."""

import itertools
import random
import unittest

from givesifgets.gaining import is_gaining
from givesifgets.lies import asking, loser, reach
from givesifgets.trading import prefers, rounds, trade
from givesifgets.wishprices import are_prices, deal_paper, least_prices
from tests.plain import ODD_VALUES, all_values_near, only_tuples
from tests.test_trading import (WISHES, all_deals, all_wishes, drawn_wishes, long_ring, plain_prefers, plain_trade,
                                some_deals, wishes_tried)


def small_wishes(seed, many):
    """All wishes of up to three people, and many of four."""
    for n in range(4):
        yield from all_wishes(n)
    rng = random.Random(seed)
    for _ in range(many):
        yield drawn_wishes(rng, 4)


def chain_of_wishes(n):
    """Each wants the one before, whose friend is gone."""
    return ((0,),) + tuple((person - 1, person) for person in range(1, n))


def plain_right(wishes, deal, prices):
    """Whether numbers, one for each person, are right prices, by a look at each wish."""
    for person in range(len(wishes)):
        if prices[deal[person]] > prices[person]:
            return False
        for other in range(len(wishes)):
            if plain_prefers(wishes, person, other, deal[person]) and not prices[other] > prices[person]:
                return False
    return True


class Prices(unittest.TestCase):
    def test_each_wishes_and_deal(self):
        seen = {True: 0, False: 0}
        for at, wishes in enumerate(small_wishes(531, 60)):
            n = len(wishes)
            # right prices can be told by numbers below that of the people: each step up a chain wants one more
            rows = list(itertools.product(range(n), repeat=n))
            best = trade(wishes)
            for deal in all_deals(wishes):
                right = [row for row in rows if plain_right(wishes, deal, row)]
                self.assertEqual(right != [], deal == best)
                for row in rows if n < 4 else random.Random(at).sample(rows, 20) + right:
                    self.assertIs(are_prices(wishes=wishes, deal=deal, value=row), row in right)
                    seen[row in right] += 1
        self.assertGreater(min(seen.values()), 500)

    def test_least_prices(self):
        for wishes in small_wishes(532, 120):
            n = len(wishes)
            told = least_prices(wishes=wishes)
            self.assertTrue(type(told) is tuple and only_tuples(told))
            self.assertTrue(plain_right(wishes, trade(wishes), told))
            right = [row for row in itertools.product(range(n), repeat=n) if plain_right(wishes, trade(wishes), row)]
            self.assertEqual(told, tuple(min(column) for column in zip(*right)))

    def test_great_and_equal_prices(self):
        great = 10 ** 999
        for wishes in wishes_tried(533, 60):
            n, deal = len(wishes), trade(wishes)
            least = least_prices(wishes)
            self.assertIs(are_prices(wishes, deal, least), True)
            self.assertIs(are_prices(wishes, deal, tuple(price * great for price in least)), True)
            self.assertIs(are_prices(wishes, deal, tuple(price + great - 9 for price in least)), True)
            equal = plain_right(wishes, deal, (5,) * n)
            self.assertIs(are_prices(wishes, deal, (5,) * n), equal)
            self.assertEqual(equal, max(least, default=0) == 0)
            for at, price in enumerate(least):
                # less than the least ones nobody's price can be
                lower = least[:at] + (price - 1,) + least[at + 1:]
                self.assertIs(are_prices(wishes, deal, lower), False)

    def test_values_near(self):
        rng = random.Random(534)
        seen = {True: 0, False: 0}
        for wishes in [WISHES, (), ((0,),), ((1, 0), (0, 1)), ((1, 0), (1,))] + [drawn_wishes(rng, 4) for _ in range(8)]:
            n = len(wishes)
            for deal in [trade(wishes)] + some_deals(rng, wishes)[:3]:
                rows = [least_prices(wishes), (0,) * n, (7,) * n, tuple(range(n)), tuple(range(n))[::-1]]
                for value in all_values_near(rows):
                    fits = type(value) is tuple and len(value) == n and all(
                        type(price) is int and price >= 0 for price in value)
                    wanted = fits and plain_right(wishes, deal, value)
                    self.assertIs(are_prices(wishes, deal, value), wanted, value)
                    seen[wanted] += 1
        self.assertGreater(min(seen.values()), 100)
        deal = trade(WISHES)
        self.assertIs(are_prices(WISHES, deal, (5, 9, 9, 0)), True)
        for value in ((5, 9, 9, 0, 0), (5, 9, 9), [5, 9, 9, 0], (5, 9, 9, False), (5.0, 9, 9, 0), (5, 9, 8, 0),
                      (5, 9, 9, -1), ((5, 9, 9, 0),), (9, 9, 9, 0), (5, 9, 9, None)):
            self.assertIs(are_prices(WISHES, deal, value), False, value)

    def test_deal_paper(self):
        words = set()
        for wishes in small_wishes(535, 60):
            for deal in all_deals(wishes):
                told = deal_paper(wishes=wishes, deal=deal)
                self.assertTrue(type(told) is tuple and only_tuples(told))
                words.add(told[0])
                if told[0] == "prices":
                    self.assertEqual((len(told), deal), (2, trade(wishes)))
                    self.assertTrue(plain_right(wishes, deal, told[1]))
                    self.assertIs(are_prices(wishes, deal, told[1]), True)
                else:
                    self.assertEqual((told[0], len(told)), ("gaining", 3))
                    self.assertIs(is_gaining(wishes, deal, told[1:]), True)
                    self.assertNotEqual(deal, trade(wishes))
        self.assertEqual(words, {"prices", "gaining"})

    def test_sixty_people(self):
        rng = random.Random(536)
        for wishes in (drawn_wishes(rng, 60), drawn_wishes(rng, 60, 4), long_ring(60), chain_of_wishes(60)):
            deal = trade(wishes)
            prices = least_prices(wishes)
            self.assertIs(are_prices(wishes, deal, prices), True)
            self.assertEqual(deal_paper(wishes, deal), ("prices", prices))
            for rings in rounds(wishes):
                for ring in rings:
                    self.assertEqual(len({prices[person] for person in ring}), 1)
            alone = tuple(range(60))
            told = deal_paper(wishes, alone)
            self.assertEqual(told[0] == "prices", alone == deal)
            self.assertTrue(told[0] == "prices" or is_gaining(wishes, alone, told[1:]))
        self.assertEqual(least_prices(chain_of_wishes(60)), tuple(range(59, -1, -1)))
        self.assertEqual(least_prices(long_ring(60)), (0,) * 60)


class OtherWords(unittest.TestCase):
    def test_asking(self):
        for wishes in wishes_tried(541, 20):
            for person, other in itertools.product(range(len(wishes)), repeat=2):
                told = asking(wishes=wishes, person=person, other=other)
                self.assertTrue(type(told) is tuple and only_tuples(told))
                row = (person,) if person == other else (other, person)
                self.assertEqual(told, tuple(row if at == person else wishes[at] for at in range(len(wishes))))
        self.assertEqual(asking(WISHES, 2, 2), ((2, 1, 0), (2, 0, 1), (2,), (2, 3)))
        self.assertEqual(asking(WISHES, 0, 3)[0], (3, 0))

    def test_reach(self):
        """A plain trying of all rows of a person: it gets the first one of each row who is in its reach."""
        rng = random.Random(542)
        tried = [wishes for n in range(3) for wishes in all_wishes(n)] + rng.sample(list(all_wishes(3)), 30)
        tried += [drawn_wishes(rng, 4) for _ in range(20)] + [drawn_wishes(rng, 5) for _ in range(4)] + [WISHES]
        for wishes in tried:
            n = len(wishes)
            for person in range(n):
                told = reach(wishes=wishes, person=person)
                others = [other for other in range(n) if other != person]
                got = set()
                for size in range(n):
                    for row in itertools.permutations(others, size):
                        other_words = wishes[:person] + (row + (person,),) + wishes[person + 1:]
                        shares = plain_trade(other_words, rng)
                        got.add(shares[person])
                        self.assertEqual(shares[person], next(q for q in row + (person,) if q in told))
                self.assertEqual(told, tuple(sorted(got)))
                self.assertIn(person, told)

    def test_whose_share_a_row_can_turn(self):
        """Its row can turn the share of another one exactly if this one is in its reach."""
        rng = random.Random(543)
        for wishes in [drawn_wishes(rng, rng.randint(2, 4)) for _ in range(60)] + [WISHES]:
            n = len(wishes)
            for person in range(n):
                others = [other for other in range(n) if other != person]
                rows = [row + (person,) for size in range(n) for row in itertools.permutations(others, size)]
                trades = [trade(wishes[:person] + (row,) + wishes[person + 1:]) for row in rows]
                for other in others:
                    turns = len({shares[other] for shares in trades}) > 1
                    self.assertEqual(turns, other in reach(wishes, person))

    def check_loser(self, wishes, told):
        person = loser(wishes=wishes, told=told)
        best, other = trade(wishes), trade(told)
        if best == other:
            self.assertIsNone(person)
            return 0
        self.assertIs(type(person), int)
        self.assertNotEqual(wishes[person], told[person])
        self.assertTrue(plain_prefers(wishes, person, best[person], other[person]))
        return 1

    def test_loser(self):
        rng = random.Random(544)
        turned = 0
        for n in range(3):
            for wishes, told in itertools.product(all_wishes(n), repeat=2):
                turned += self.check_loser(wishes, told)
        for n in [3] * 300 + [4] * 300 + [6] * 200 + [9] * 50:
            wishes, told = drawn_wishes(rng, n), drawn_wishes(rng, n)
            liars = rng.sample(range(n), rng.choice((1, 1, 2, n // 2, n)))
            other = tuple(told[at] if at in liars else wishes[at] for at in range(n))
            turned += self.check_loser(wishes, other)
            self.check_loser(wishes, wishes)
            if len(liars) == 1:
                # nobody gets anything better than by its true row
                liar = liars[0]
                self.assertFalse(prefers(wishes, liar, trade(other)[liar], trade(wishes)[liar]))
        self.assertGreater(turned, 300)
        self.assertEqual(loser(WISHES, asking(WISHES, 2, 0)), 2)

    def test_rows_told_otherwise_without_a_turn(self):
        """Behind its share a row can be told in any way."""
        rng = random.Random(545)
        for _ in range(100):
            wishes = drawn_wishes(rng, 6)
            deal = trade(wishes)
            told = tuple(row[:row.index(deal[at])] + ((deal[at], at) if deal[at] != at else (at,))
                         for at, row in enumerate(wishes))
            self.assertEqual(trade(told), deal)
            self.assertIsNone(loser(wishes, told))

    def test_sixty_people(self):
        rng = random.Random(546)
        wishes = drawn_wishes(rng, 60)
        self.assertIn(trade(wishes)[7], reach(wishes, 7))
        self.assertEqual(reach(long_ring(60), 5), tuple(range(60)))
        self.assertEqual(reach(chain_of_wishes(60), 59), (59,))
        self.assertEqual(reach(chain_of_wishes(60), 0), tuple(range(60)))
        self.check_loser(wishes, drawn_wishes(rng, 60))
        self.assertEqual([odd for odd in ODD_VALUES if are_prices(wishes, trade(wishes), odd)], [])
