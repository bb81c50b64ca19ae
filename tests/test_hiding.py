"""Promises [35] to [37]: hidden pairs, news, one pair or one person."""

import itertools
import random
import unittest

from givesifgets.changes import pair_news, pair_turned, person_gone
from givesifgets.hiding import less, pairs_at, plan_beside
from givesifgets.kept import kept_lot, kept_plan
from givesifgets.news import are_near_plans, changed_pairs, come_and_gone, near_plans
from givesifgets.plans import served
from givesifgets.strands import strands
from tests.plain import (ODD_VALUES, Tried, all_plans, all_values_near, all_webs, drawn_order, drawn_web, drawn_webs,
                         lots_of, only_tuples, people_in)
from tests.test_search import SHAPES
from tests.test_strands import plain_strands

RING = (4, ((0, 1), (0, 3), (1, 2), (2, 3)))


def webs_tried(seed, many=60):
    for n in range(5):
        yield from all_webs(n)
    yield from list(all_webs(5))[::7]
    yield from SHAPES
    yield from drawn_webs(seed, many, 6, 8)


def left(web, hidden):
    return (web[0], tuple(pair for pair in web[1] if pair not in hidden))


def some_of(rng, pairs, share):
    return tuple(pair for pair in pairs if rng.random() < share)


class Hiding(unittest.TestCase):
    def test_pairs_at(self):
        for web in webs_tried(121, 10):
            for lot in lots_of(web[0]):
                told = pairs_at(web=web, lot=lot)
                self.assertTrue(type(told) is tuple and only_tuples(told))
                self.assertEqual(told, tuple(sorted(pair for pair in web[1] if set(pair) & set(lot))))

    def test_less(self):
        rng = random.Random(122)
        for web in webs_tried(123, 20):
            for share in (0, 0.3, 0.7, 1):
                hidden = some_of(rng, web[1], share)
                told = less(web=web, pairs=hidden)
                self.assertEqual(told, (web[0], tuple(sorted(set(web[1]) - set(hidden)))))
                self.assertTrue(only_tuples(told))

    def look_beside(self, tried, order, hidden):
        """Whether some plan has none of the hidden pairs and serves just the kept lot; `plan_beside` is held to it."""
        kept = tried.kept(order)
        wanted = [plan for plan in tried.plans if people_in(plan) == set(kept) and not set(plan) & set(hidden)]
        told = plan_beside(web=tried.web, order=order, pairs=hidden)
        if wanted:
            self.assertIn(told, wanted)
            self.assertTrue(only_tuples(told))
        else:
            self.assertIsNone(told)
        self.assertEqual(Tried(left(tried.web, hidden)).kept(order) == kept, bool(wanted))
        return bool(wanted)

    def test_plan_beside(self):
        rng = random.Random(124)
        seen = {True: 0, False: 0}
        for web in webs_tried(125):
            tried, order = Tried(web), drawn_order(rng, web[0])
            kept = tried.kept(order)
            for share in (0, 0.2, 0.5, 1):
                seen[self.look_beside(tried, order, some_of(rng, web[1], share))] += 1
            # at people who are not kept nothing is gained, nor lost, by hiding
            for lot in lots_of(web[0])[1::3]:
                hidden = some_of(rng, [pair for pair in web[1] if set(pair) & set(lot)], 0.8)
                told = self.look_beside(tried, order, hidden)
                self.assertTrue(told or set(lot) & set(kept))
                seen[told] += 1
        self.assertGreater(min(seen.values()), 300)

    def test_all_hidden_pairs_of_small_webs(self):
        for web in all_webs(4):
            tried = Tried(web)
            for size in range(len(web[1]) + 1):
                for hidden in itertools.combinations(web[1], size):
                    self.look_beside(tried, (2, 0, 3, 1), hidden)

    def test_forty_people(self):
        rng = random.Random(126)
        for share in (0.05, 0.15, 1.1):
            web, order = drawn_web(rng, 40, share), drawn_order(rng, 40)
            kept = kept_lot(web, order)
            others = tuple(person for person in range(40) if person not in kept)
            plan = plan_beside(web, order, pairs_at(web, others))
            self.assertEqual(served(plan), kept)
            for hiding in (0.1, 0.6):
                hidden = some_of(rng, web[1], hiding)
                plan = plan_beside(web, order, hidden)
                self.assertEqual(plan is not None, kept_lot(left(web, hidden), order) == kept)
                if plan is not None:
                    self.assertEqual((served(plan), set(plan) & set(hidden)), (kept, set()))
        self.assertIsNone(plan_beside(web, order, web[1]))


def two_webs(seed, many):
    """Pairs of webs that are equal, differ in one pair, in pairs of one person, in some pairs, wholly."""
    rng = random.Random(seed)
    for web in webs_tried(seed + 1, many):
        n = web[0]
        every = list(itertools.combinations(range(n), 2))
        yield web, web
        if every:
            yield web, (n, tuple(sorted(set(web[1]) ^ {rng.choice(every)})))
            person = rng.randrange(n)
            yield web, (n, tuple(sorted(set(web[1]) ^ {pair for pair in every if person in pair})))
            yield web, (n, tuple(sorted(set(web[1]) ^ set(some_of(rng, every, 0.3)))))
        yield web, (n, tuple(sorted(set(every) - set(web[1]))))
    for n in (6, 8):
        # rings of an even number of people, in which plans lie beside one another
        ring = [(u, u + 1) for u in range(n - 1)] + [(0, n - 1)]
        for pair in itertools.combinations(range(n), 2):
            yield (n, tuple(sorted(ring))), (n, tuple(sorted(set(ring) ^ {pair})))


def is_ring_kept(one, other, changed):
    """Whether some strand of two plans has no changed pair."""
    for word, people in plain_strands(one, other):
        steps = list(zip(people, people[1:])) + ([(people[-1], people[0])] if word == "ring" else [])
        if not {tuple(sorted(step)) for step in steps} & changed:
            return True
    return False


def plain_near(web, other, order):
    """All pairs of plans that are near, by the words of the document."""
    changed = set(web[1]) ^ set(other[1])
    rows = []
    for tried in (Tried(web), Tried(other)):
        kept = set(tried.kept(order))
        rows.append([plan for plan in tried.plans if people_in(plan) == kept])
    return [pair for pair in itertools.product(*rows) if not is_ring_kept(pair[0], pair[1], changed)]


class News(unittest.TestCase):
    def test_changed_pairs(self):
        for web, other in two_webs(131, 20):
            told = changed_pairs(web=web, other=other)
            self.assertTrue(type(told) is tuple and only_tuples(told))
            wanted = [pair for pair in web[1] if pair not in other[1]] + [pair for pair in other[1] if pair not in web[1]]
            self.assertEqual(told, tuple(sorted(wanted)))

    def test_come_and_gone(self):
        rng = random.Random(132)
        for web, other in two_webs(133, 40):
            order = drawn_order(rng, web[0])
            before, behind = set(Tried(web).kept(order)), set(Tried(other).kept(order))
            told = come_and_gone(web=web, other=other, order=order)
            self.assertEqual(told, (tuple(sorted(behind - before)), tuple(sorted(before - behind))))
            self.assertTrue(only_tuples(told))

    def test_near_plans(self):
        rng = random.Random(134)
        rings = 0
        for web, other in two_webs(135, 250):
            order = drawn_order(rng, web[0])
            told = near_plans(web=web, other=other, order=order)
            self.assertTrue(type(told) is tuple and only_tuples(told))
            one, near = told
            self.assertIn(one, all_plans(web))
            self.assertIn(near, all_plans(other))
            self.assertEqual(people_in(one), set(Tried(web).kept(order)))
            self.assertEqual(people_in(near), set(Tried(other).kept(order)))
            changed = set(web[1]) ^ set(other[1])
            self.assertFalse(is_ring_kept(one, near, changed))
            self.assertIs(are_near_plans(web=web, other=other, order=order, value=told), True)
            rings += is_ring_kept(kept_plan(web, order), kept_plan(other, order), changed)
            self.look_at_facts(web, other, order, changed)
        # often enough the plans as they are found first have rings beside one another
        self.assertGreater(rings, 10)

    def look_at_facts(self, web, other, order, changed):
        come, gone = come_and_gone(web, other, order)
        for size in range(web[0] + 1):
            covers = [lot for lot in itertools.combinations(range(web[0]), size) if all(set(p) & set(lot) for p in changed)]
            if covers:
                self.assertLessEqual(len(come), 2 * size)
                self.assertLessEqual(len(come) + len(gone), 2 * size)
                break
        if not set(other[1]) - set(web[1]):
            for plan in all_plans(web):
                if people_in(plan) == set(kept_lot(web, order)):
                    self.assertLessEqual(len(come), len(set(plan) & changed))

    def test_rings_are_not_left(self):
        one, other = ((0, 1), (2, 3)), ((0, 3), (1, 2))
        order = (0, 1, 2, 3)
        for value, told in (((one, one), True), ((one, other), False), ((other, one), False), ((other, other), True)):
            self.assertIs(are_near_plans(RING, RING, order, value), told)
        more = (4, tuple(sorted(RING[1] + ((0, 2),))))
        self.assertIs(are_near_plans(RING, more, order, (one, other)), False)
        self.assertIs(are_near_plans(RING, more, order, (one, one)), True)
        # with a changed pair on it a ring may stay
        fewer = less(RING, ((0, 1),))
        self.assertIs(are_near_plans(RING, fewer, order, (one, other)), True)
        self.assertEqual(near_plans(RING, fewer, order)[1], other)

    def test_near_values(self):
        """Other plans for the kept lots, plans for other lots, lists, changed about: all pairs of plans, and odd ones."""
        rng = random.Random(136)
        seen = {True: 0, False: 0}
        for web, other in list(two_webs(137, 6))[60::9]:
            if len(all_plans(web)) * len(all_plans(other)) > 1500:
                continue
            order = drawn_order(rng, web[0])
            wanted = {repr(pair) for pair in plain_near(web, other, order)}
            told = near_plans(web, other, order)
            every = list(itertools.product(all_plans(web), all_plans(other)))
            values = every + [list(told), (told[1], told[0]), (list(told[0]), told[1])] + list(all_values_near([told]))
            for value in values:
                self.assertIs(are_near_plans(web, other, order, value), repr(value) in wanted, value)
                seen[repr(value) in wanted] += 1
        self.assertGreater(min(seen.values()), 200)

    def test_odd_values(self):
        web, order = (3, ((0, 1),)), (2, 1, 0)
        for value in ODD_VALUES + [(((0, 1),), value) for value in ODD_VALUES] + [(value, ()) for value in ODD_VALUES]:
            self.assertIs(are_near_plans(web, web, order, value), repr(value) == "(((0, 1),), ((0, 1),))", value)

    def test_forty_people(self):
        rng = random.Random(138)
        for share in (0.05, 0.1, 0.4):
            web, order = drawn_web(rng, 40, share), drawn_order(rng, 40)
            for other in (web, drawn_web(rng, 40, share), less(web, some_of(rng, web[1], 0.1))):
                told = near_plans(web, other, order)
                self.assertIs(are_near_plans(web, other, order, told), True)
                ways = [people for word, people in strands(*told) if word == "way"]
                loose = {person for people in ways for person in (people[0], people[-1])}
                come, gone = come_and_gone(web, other, order)
                self.assertEqual(loose, set(come + gone))


class Changes(unittest.TestCase):
    def test_pair_turned(self):
        for web in webs_tried(141, 10):
            for pair in itertools.combinations(range(web[0]), 2):
                told = pair_turned(web=web, pair=pair)
                self.assertEqual(told, (web[0], tuple(sorted(set(web[1]) ^ {pair}))))
                self.assertTrue(only_tuples(told))

    def plain_news(self, before, behind, order):
        come = sorted(set(behind) - set(before))
        gone = sorted(set(before) - set(behind))
        if come and gone:
            self.assertEqual((len(come), len(gone)), (1, 1))
            return ("instead", come[0], gone[0])
        if come or gone:
            self.assertEqual(len(come + gone), 2)
            return ("come", tuple(come)) if come else ("go", tuple(gone))
        return ("same",)

    def test_pair_news(self):
        rng = random.Random(142)
        seen = {}
        for web in webs_tried(143, 40):
            tried = Tried(web)
            for order in {drawn_order(rng, web[0]) for _ in range(2)}:
                kept = tried.kept(order)
                for pair in itertools.combinations(range(web[0]), 2):
                    later = Tried((web[0], tuple(sorted(set(web[1]) ^ {pair}))))
                    told = pair_news(web=web, order=order, pair=pair)
                    self.assertEqual(told, self.plain_news(kept, later.kept(order), order))
                    self.assertTrue(only_tuples(told))
                    seen[told[0]] = seen.get(told[0], 0) + 1
                    if told != ("same",):
                        having = tried if pair in web[1] else later
                        self.assertLessEqual(set(pair), set(having.kept(order)))
        self.assertEqual(set(seen), {"same", "come", "go", "instead"})
        self.assertGreater(min(seen.values()), 100)

    def test_person_gone(self):
        rng = random.Random(144)
        seen = {}
        for web in webs_tried(145, 60):
            tried = Tried(web)
            for order in {drawn_order(rng, web[0]) for _ in range(2)}:
                kept = tried.kept(order)
                for person in range(web[0]):
                    told = person_gone(web=web, order=order, person=person)
                    self.assertEqual(told, self.plain_person(tried, kept, order, person))
                    self.assertEqual(told, self.told_person(tried, kept, order, person))
                    self.assertTrue(only_tuples(told))
                    seen[told[0]] = seen.get(told[0], 0) + 1
        self.assertEqual(set(seen), {"same", "go", "instead"})
        self.assertGreater(min(seen.values()), 100)

    def plain_person(self, tried, kept, order, person):
        behind = Tried(left(tried.web, [pair for pair in tried.web[1] if person in pair])).kept(order)
        come, gone = set(behind) - set(kept), set(kept) - set(behind)
        if person not in kept:
            self.assertEqual(behind, kept)
            return ("same",)
        self.assertIn(person, gone)
        if come:
            self.assertEqual((len(come), gone), (1, {person}))
            return ("instead", come.pop())
        self.assertEqual(len(gone), 2)
        return ("go", (gone - {person}).pop())

    def told_person(self, tried, kept, order, person):
        """Who comes, or goes, by the fact that the document tells."""
        if person not in kept:
            return ("same",)
        rest = Tried(left(tried.web, [pair for pair in tried.web[1] if person in pair]))
        others = [other for other in kept if other != person]
        for other in order:
            if other not in kept and rest.servable(others + [other]):
                return ("instead", other)
        lost = [other for other in order if other in others and rest.servable([q for q in others if q != other])]
        return ("go", lost[-1])

    def test_pairs_of_one_person(self):
        """Whatever changes in them, at most two come or go; nobody if he is kept neither before nor behind."""
        rng = random.Random(146)
        for web in webs_tried(147, 60):
            order, n = drawn_order(rng, web[0]), web[0]
            for person in range(n):
                his = [(min(person, q), max(person, q)) for q in range(n) if q != person]
                other = (n, tuple(sorted(set(web[1]) ^ set(some_of(rng, his, 0.5)))))
                come, gone = come_and_gone(web, other, order)
                self.assertLessEqual(len(come + gone), 2)
                if person not in kept_lot(web, order) + kept_lot(other, order):
                    self.assertEqual(come + gone, ())

    def test_forty_people(self):
        rng = random.Random(148)
        for share in (0.04, 0.1, 0.5):
            web, order = drawn_web(rng, 40, share), drawn_order(rng, 40)
            for person in range(0, 40, 3):
                told = person_gone(web, order, person)
                come, gone = come_and_gone(web, less(web, pairs_at(web, (person,))), order)
                forms = {(0, 0): ("same",), (1, 1): ("instead",) + come, (0, 2): ("go",) + gone}
                self.assertEqual(told[0], forms[(len(come), len(gone))][0])
                self.assertEqual(set(told[1:]), set(come) or set(gone) - {person})
                pair = tuple(sorted(rng.sample(range(40), 2)))
                self.assertEqual(pair_news(web, order, pair) == ("same",),
                                 come_and_gone(web, pair_turned(web, pair), order) == ((), ()))
