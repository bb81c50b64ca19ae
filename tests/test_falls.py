"""Promises [46] to [48]: what falls out, fates of pairs, short lists."""

import itertools
import random
import unittest

from givesifgets.errors import InvalidQuestion
from givesifgets.falls import are_falls, left_plan, left_web, repaired
from givesifgets.fates import fate, fate_paper, is_fate_paper, needed_pairs
from givesifgets.kept import kept_lot
from givesifgets.plans import is_plan
from givesifgets.search import largest_plan
from givesifgets.shortlists import first_cover, is_cover, short_list
from givesifgets.threeparts import three_parts
from givesifgets.turns import is_growing, turned
from tests.plain import (ODD_VALUES, Tried, all_plans, all_values_near, all_webs, drawn_order, drawn_web, drawn_webs,
                         lots_of, only_tuples, people_in, plain_odd_parts)
from tests.test_hiding import webs_tried
from tests.test_search import SHAPES


def plain_left(web, falls):
    pairs, people = falls
    return (web[0], tuple(pair for pair in web[1] if pair not in pairs and not set(pair) & set(people)))


def drawn_falls(rng, web, most):
    """Falls, at most so many in number."""
    things = [("pair", pair) for pair in web[1]] + [("person", person) for person in range(web[0])]
    some = rng.sample(things, min(len(things), rng.randint(0, most)))
    return (tuple(sorted(thing for word, thing in some if word == "pair")),
            tuple(sorted(thing for word, thing in some if word == "person")))


class Falls(unittest.TestCase):
    def refused(self, at, function, *arguments):
        with self.assertRaises(InvalidQuestion) as caught:
            function(*arguments)
        self.assertEqual(caught.exception.at, at)

    def plain_are_falls(self, web, value):
        if type(value) is not tuple or len(value) != 2 or type(value[0]) is not tuple:
            return False
        pairs = {repr(pair) for pair in web[1]}
        if not all(repr(pair) in pairs for pair in value[0]) or sorted(set(value[0])) != list(value[0]):
            return False
        return repr(value[1]) in {repr(lot) for lot in lots_of(web[0])}

    def test_are_falls(self):
        rng = random.Random(231)
        seen = {True: 0, False: 0}
        for web in [(0, ()), (1, ()), (3, ((0, 1), (1, 2)))] + SHAPES[:2] + list(drawn_webs(232, 8, 4, 5)):
            for falls in [((), ()), (web[1], tuple(range(web[0]))), drawn_falls(rng, web, 4)]:
                self.assertIs(are_falls(web=web, value=falls), True)
                values = [(falls[0][::-1], falls[1]), (falls[0] * 2, falls[1]), (falls[1], falls[0]), list(falls)]
                values += [(falls[0] + ((u, v),), ()) for u, v in itertools.permutations(range(web[0] + 1), 2)]
                for value in values + list(all_values_near([falls])) + [(odd, ()) for odd in ODD_VALUES] + [
                        ((), odd) for odd in ODD_VALUES] + [((odd,), ()) for odd in ODD_VALUES]:
                    wanted = self.plain_are_falls(web, value)
                    self.assertIs(are_falls(web, value), wanted, value)
                    seen[wanted] += 1
        self.assertGreater(min(seen.values()), 100)

    def test_what_is_left(self):
        rng = random.Random(233)
        for web in webs_tried(234):
            for falls in [((), ()), (web[1], ()), ((), tuple(range(web[0])))] + [drawn_falls(rng, web, 5) for _ in range(3)]:
                left = plain_left(web, falls)
                self.assertEqual(left_web(web=web, falls=falls), left)
                for plan in all_plans(web)[:20]:
                    told = left_plan(plan=plan, falls=falls)
                    self.assertEqual(told, tuple(pair for pair in plan if pair in left[1]))
                    self.assertTrue(only_tuples(told))

    def look_at_repaired(self, web, plan, falls):
        told = repaired(web=web, plan=plan, falls=falls)
        self.assertTrue(type(told) is tuple and len(told) == 2 and only_tuples(told))
        ways, later = told
        left, now = left_web(web, falls), left_plan(plan, falls)
        fallen = len(plan) - len(now)
        kept = people_in(now)
        for way in ways:
            self.assertEqual(way[0], "way")
            self.assertIs(is_growing(left, now, way), True)
            now = turned(left, now, way)
        self.assertEqual(now, later)
        self.assertEqual(len(later), len(largest_plan(left)))
        self.assertLessEqual(len(ways), fallen)
        self.assertLessEqual(len(people_in(later) - people_in(plan)), fallen)
        self.assertLessEqual(kept, people_in(later))
        self.assertGreaterEqual(len(later), len(plan) - len(falls[0]) - len(falls[1]))
        return len(ways)

    def test_repaired(self):
        rng = random.Random(235)
        counts = {}
        for web in webs_tried(236):
            tried = Tried(web)
            for plan in rng.sample(tried.largest, min(4, len(tried.largest))):
                plan = tuple(sorted(plan))
                for most in (0, 1, 2, 4, 20):
                    falls = drawn_falls(rng, web, most)
                    ways = self.look_at_repaired(web, plan, falls)
                    self.assertEqual(len(left_plan(plan, falls)) + ways, Tried(left_web(web, falls)).size)
                    counts[ways] = counts.get(ways, 0) + 1
                self.look_at_repaired(web, plan, (plan, ()))
                self.assertEqual(repaired(web, plan, (web[1], tuple(range(web[0])))), ((), ()))
        self.assertGreater(min(counts[ways] for ways in (0, 1, 2)), 20)

    def test_what_is_refused(self):
        rng = random.Random(237)
        for web in [(0, ()), (2, ((0, 1),)), (4, ((0, 1), (0, 3), (1, 2), (2, 3)))] + list(drawn_webs(238, 12, 3, 6)):
            tried = Tried(web)
            plans = {repr(tuple(sorted(plan))) for plan in tried.largest}
            plan, falls = tuple(sorted(tried.largest[-1])), drawn_falls(rng, web, 3)
            for value in list(all_values_near([plan])) + tried.plans + [web[1]]:
                if repr(value) in plans:
                    self.look_at_repaired(web, value, falls)
                else:
                    self.refused(1, repaired, web, value, falls)
                    self.refused(1, repaired, web, value, None)
            for value in all_values_near([falls]):
                if self.plain_are_falls(web, value):
                    self.look_at_repaired(web, plan, value)
                else:
                    self.refused(2, repaired, web, plan, value)

    def test_forty_people(self):
        rng = random.Random(239)
        for share in (0.05, 0.1, 0.4):
            web = drawn_web(rng, 40, share)
            for most in (1, 5, 40):
                self.look_at_repaired(web, largest_plan(web), drawn_falls(rng, web, most))


def plain_caps(web, lot, k):
    return len(plain_odd_parts(web, lot)) - len(lot) + 2 * k == web[0]


def plain_fate_paper(web, pair, value, plans):
    """Whether any value is a paper of some fate, by the words of the document; `plans` are all of the web."""
    if type(value) is not tuple or len(value) != 3 or type(value[1]) is not tuple:
        return False
    known = {repr(plan) for plan in plans}
    if not all(repr(plan) in known for plan in value[1]) or repr(value[2]) not in {repr(lot) for lot in lots_of(web[0])}:
        return False
    word, told, lot = value
    sizes = {len(plan) for plan in told}
    if len(sizes) != 1:
        return False
    k = sizes.pop()
    without_pair = (web[0], tuple(other for other in web[1] if other != pair))
    without_people = (web[0], tuple(other for other in web[1] if not set(other) & set(pair)))
    if repr(word) == "'all'":
        return len(told) == 1 and plain_caps(without_pair, lot, k - 1)
    if repr(word) == "'some'":
        return len(told) == 2 and pair in told[0] and pair not in told[1] and plain_caps(web, lot, k)
    return repr(word) == "'none'" and len(told) == 1 and plain_caps(without_people, lot, k - 2)


class Fates(unittest.TestCase):
    refused = Falls.refused

    def plain_fate(self, tried, pair):
        having = sum(pair in plan for plan in tried.largest)
        return "all" if having == len(tried.largest) else "some" if having else "none"

    def test_fate(self):
        seen = {}
        for web in webs_tried(241, 120):
            tried = Tried(web)
            free, near, firm = three_parts(web)
            needed = []
            for pair in web[1]:
                told = fate(web=web, pair=pair)
                self.assertEqual(told, self.plain_fate(tried, pair))
                seen[told] = seen.get(told, 0) + 1
                fallen = Tried((web[0], tuple(other for other in web[1] if other != pair)))
                self.assertEqual(fallen.size < tried.size, told == "all")
                if set(pair) & set(free):
                    self.assertEqual(told, "some")
                elif set(pair) & set(near):
                    self.assertEqual(told, "none")
                if told == "all":
                    self.assertLessEqual(set(pair), set(firm))
                    needed.append(pair)
            self.assertEqual(needed_pairs(web=web), tuple(needed))
            others = (web[0], tuple(pair for pair in web[1] if self.plain_fate(tried, pair) != "none"))
            self.assertEqual(sorted(Tried(others).largest), sorted(tried.largest))
        self.assertGreater(min(seen[word] for word in ("all", "some", "none")), 100)

    def test_pairs_that_are_none(self):
        for web in ((0, ()), (1, ()), (3, ((0, 1), (1, 2))), (4, ((0, 1), (2, 3)))):
            for value in all_values_near([(0, 1), (1, 2), (2, 3)]):
                if repr(value) in {repr(pair) for pair in web[1]}:
                    self.assertIn(fate(web, value), ("all", "some", "none"))
                else:
                    self.refused(1, fate, web, value)
            self.assertEqual(needed_pairs((web[0], ())), ())

    def test_fate_papers(self):
        for web in webs_tried(242, 100):
            plans = [tuple(sorted(plan)) for plan in all_plans(web)]
            tried = Tried(web)
            for pair in web[1]:
                told = fate_paper(web=web, pair=pair)
                self.assertTrue(type(told) is tuple and only_tuples(told))
                self.assertEqual(told[0], self.plain_fate(tried, pair))
                self.assertTrue(plain_fate_paper(web, pair, told, plans), (web, pair, told))
                self.assertIs(is_fate_paper(web=web, pair=pair, value=told), True)

    def test_only_papers_of_the_own_fate(self):
        """All words, plans and lots on small webs: whatever is a paper is one of the pair's own fate."""
        seen = {}
        for web in list(all_webs(3)) + list(all_webs(4))[::2]:
            tried, lots = Tried(web), lots_of(web[0])
            plans = sorted(tried.plans)
            for pair in web[1]:
                word = self.plain_fate(tried, pair)
                rows = [(plan,) for plan in plans] + list(itertools.product(plans, plans)) + [()]
                for value in itertools.product(("all", "some", "none"), rows, lots):
                    told = is_fate_paper(web, pair, value)
                    self.assertIs(told, plain_fate_paper(web, pair, value, plans), value)
                    if told:
                        self.assertEqual(value[0], word)
                        seen[word] = seen.get(word, 0) + 1
        self.assertGreater(min(seen[word] for word in ("all", "some", "none")), 10)

    def test_values_near_papers(self):
        rng = random.Random(243)
        seen = {True: 0, False: 0}
        for web in SHAPES[:2] + list(drawn_webs(244, 14, 4, 6)):
            plans = [tuple(sorted(plan)) for plan in all_plans(web)]
            for pair in rng.sample(web[1], min(3, len(web[1]))):
                word, told, lot = paper = fate_paper(web, pair)
                values = [(other, told, lot) for other in ("all", "some", "none", "many", None, b"all", 0, ("all",))]
                values += [(word, told[::-1], lot), (word, told * 2, lot), (word, told[:1], lot), (word, (), lot)]
                values += [(word, list(told), lot), (word, tuple(map(list, told)), lot), (word, told, list(lot))]
                values += [(word, told, other) for other in lots_of(web[0])]
                values += [(word, told[:at] + (plan,) + told[at + 1:], lot) for at in range(len(told)) for plan in plans]
                for value in values + list(all_values_near([paper])):
                    wanted = plain_fate_paper(web, pair, value, plans)
                    self.assertIs(is_fate_paper(web, pair, value), wanted, value)
                    seen[wanted] += 1
        self.assertGreater(seen[True], 100)
        self.assertGreater(seen[False], 3000)

    def test_odd_values(self):
        web, pair = (4, ((0, 1), (1, 2), (2, 3))), (1, 2)
        plans = [tuple(sorted(plan)) for plan in all_plans(web)]
        for odd in ODD_VALUES:
            for value in (odd, (odd,) * 3, ("none", odd, ()), ("none", (odd,), ()), ("none", (((0, 1), (2, 3)),), odd),
                          (odd, (((0, 1), (2, 3)),), ()), ("some", (odd, odd), ()), ("all", odd, ())):
                self.assertIs(is_fate_paper(web, pair, value), plain_fate_paper(web, pair, value, plans), value)

    def test_forty_people(self):
        rng = random.Random(245)
        for share in (0.04, 0.08, 0.3):
            web = drawn_web(rng, 40, share)
            needed = needed_pairs(web)
            for pair in rng.sample(web[1], 20):
                paper = fate_paper(web, pair)
                self.assertIs(is_fate_paper(web, pair, paper), True)
                self.assertEqual(paper[0], fate(web, pair))
                self.assertEqual(paper[0] == "all", pair in needed)


class ShortLists(unittest.TestCase):
    refused = Falls.refused

    def covers(self, web):
        return [lot for lot in lots_of(web[0]) if all(set(pair) & set(lot) for pair in web[1])]

    def test_covers(self):
        for web in webs_tried(251, 20):
            covers = self.covers(web)
            for lot in lots_of(web[0]):
                self.assertIs(is_cover(web=web, value=lot), lot in covers)
            told, plan, taken = first_cover(web=web), [], set()
            for pair in web[1]:
                if not taken & set(pair):
                    plan.append(pair)
                    taken |= set(pair)
            self.assertEqual(told, tuple(sorted(taken)))
            self.assertTrue(only_tuples(told))
            self.assertIn(told, covers)

    def test_values_that_are_no_covers(self):
        for web in ((0, ()), (2, ()), (3, ((0, 1), (1, 2))), (5, ((0, 1), (1, 2), (2, 3), (3, 4)))):
            covers = {repr(lot) for lot in self.covers(web)}
            order = tuple(range(web[0]))
            for value in all_values_near([first_cover(web), (1, 3)]):
                self.assertIs(is_cover(web, value), repr(value) in covers, value)
                if repr(value) in covers:
                    self.assertIs(type(short_list(web, order, value, 1)), tuple)
                else:
                    self.refused(2, short_list, web, order, value, 1)

    def plain_list(self, web, order, cover, most):
        wanted = most + Tried(web).size
        pairs = {pair for pair in web[1] if set(pair) <= set(cover)}
        for person in cover:
            taken = 0
            for other in order:
                pair = (min(person, other), max(person, other))
                if other not in cover and pair in web[1] and taken < wanted:
                    pairs.add(pair)
                    taken += 1
        return (web[0], tuple(sorted(pairs)))

    def test_short_list(self):
        rng = random.Random(252)
        shorter = 0
        stars = [(8, tuple((0, v) for v in range(1, 8))), (9, tuple((u, v) for u in (0, 1) for v in range(2, 9)))]
        for web in list(webs_tried(253, 20)) + stars * 3:
            order = drawn_order(rng, web[0])
            covers = self.covers(web)
            for cover in rng.sample(covers, min(3, len(covers))) + [first_cover(web)]:
                for most in (0, 1, 2, 10 ** 999):
                    told = short_list(web=web, order=order, cover=cover, most=most)
                    self.assertEqual(told, self.plain_list(web, order, cover, most))
                    self.assertTrue(only_tuples(told))
                    shorter += told != web
        self.assertGreater(shorter, 50)

    def test_kept_behind_falls(self):
        rng = random.Random(254)
        shorter = 0
        stars = [(9, tuple((u, v) for u in range(k) for v in range(max(2, u + 1), 9))) for k in (1, 2, 3)]
        webs = [web for web in webs_tried(255, 20) if web[0] > 3] + stars * 12
        for web in webs:
            order = drawn_order(rng, web[0])
            for most in (0, 1, 2):
                covers = self.covers(web)
                cover = rng.choice(sorted(covers, key=len)[:4])
                short = short_list(web, order, cover, most)
                shorter += short != web
                for _ in range(6):
                    falls = drawn_falls(rng, web, most)
                    kept = kept_lot(left_web(web, falls), order)
                    self.assertEqual(Tried(plain_left(short, falls)).kept(order), kept)
        self.assertGreater(shorter, 20)

    def test_forty_people(self):
        rng = random.Random(256)
        for web in (drawn_web(rng, 40, 0.1), (40, tuple((u, v) for u in range(4) for v in range(u + 1, 40)))):
            order = drawn_order(rng, 40)
            cover = first_cover(web)
            for most in (0, 2, 5):
                short = short_list(web, order, cover, most)
                self.assertLessEqual(set(short[1]), set(web[1]))
                for _ in range(5):
                    falls = drawn_falls(rng, web, most)
                    left = left_web(short, (tuple(pair for pair in falls[0] if pair in short[1]), falls[1]))
                    self.assertEqual(kept_lot(left, order), kept_lot(left_web(web, falls), order))
        self.assertLess(len(short_list(web, order, (0, 1, 2, 3), 0)[1]), len(web[1]))
        self.assertIs(is_plan(web, largest_plan(web)), True)
