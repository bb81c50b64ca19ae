"""Promise [15], and is_growing of [17]: turns."""

import itertools
import random
import unittest

from givesifgets.errors import InvalidQuestion
from givesifgets.plans import is_plan
from givesifgets.turns import gain, is_growing, is_turn, turned
from tests.plain import (ODD_VALUES, all_plans, all_webs, drawn_webs, near_values, only_tuples, people_in, plain_turns)


def turned_plainly(plan, turn):
    word, people = turn
    steps = {tuple(sorted(pair)) for pair in zip(people, people[1:])}
    if word == "ring":
        steps.add(tuple(sorted((people[0], people[-1]))))
    return tuple(sorted(set(plan) ^ steps))


class Turns(unittest.TestCase):
    def webs(self):
        for n in range(5):
            yield from all_webs(n)
        yield from drawn_webs(22, 60, 5, 6)
        yield (6, tuple(itertools.combinations(range(6), 2)))

    def test_all_turns(self):
        words = {"way": 0, "ring": 0}
        for web in self.webs():
            plans = all_plans(web)
            for plan in plans[::max(1, len(plans) // 12)]:
                for turn in plain_turns(web, plan)[:300]:
                    self.look_at(web, plan, turn)
                    words[turn[0]] += 1
        self.assertGreater(min(words.values()), 200)

    def look_at(self, web, plan, turn):
        self.assertIs(is_turn(web=web, plan=plan, value=turn), True)
        later = turned(web=web, plan=plan, turn=turn)
        self.assertEqual(later, turned_plainly(plan, turn))
        self.assertTrue(only_tuples(later))
        self.assertIs(is_plan(web, later), True)
        told = gain(plan=plan, turn=turn)
        self.assertEqual(told, len(later) - len(plan))
        self.assertIs(is_growing(web=web, plan=plan, value=turn), told == 1)
        self.assertIs(is_turn(web, later, turn), True)
        self.assertEqual(turned(web, later, turn), plan)
        self.assertEqual(gain(later, turn), -told)
        ends = {turn[1][0], turn[1][-1]} if turn[0] == "way" else set()
        for person in range(web[0]):
            before, behind = person in people_in(plan), person in people_in(later)
            self.assertEqual(before != behind, person in ends)
        if turn[0] == "way":
            outside = [end not in people_in(plan) for end in (turn[1][0], turn[1][-1])]
            self.assertEqual(told, 1 if all(outside) else 0 if any(outside) else -1)
        else:
            self.assertEqual(told, 0)

    def test_all_rows_of_people(self):
        """All tuples of people of small webs, in each of which every second pair might be of the plan."""
        rows = [row for size in range(5) for row in itertools.product(range(4), repeat=size)]
        for web in list(all_webs(4))[::3] + [(4, tuple(itertools.combinations(range(4), 2)))]:
            for plan in all_plans(web):
                good = set(plain_turns(web, plan))
                for word in ("way", "ring"):
                    for people in rows:
                        self.assertIs(is_turn(web, plan, (word, people)), (word, people) in good, (web, plan, people))

    def test_near_values(self):
        rng = random.Random(23)
        seen = {True: 0, False: 0}
        for web in drawn_webs(24, 60, 4, 6):
            plan = rng.choice(all_plans(web))
            turns = plain_turns(web, plan)
            good = {repr(turn) for turn in turns}
            for turn in rng.sample(turns, min(8, len(turns))):
                for value in near_values(turn):
                    told = is_turn(web, plan, value)
                    self.assertIs(told, repr(value) in good, (web, plan, value))
                    self.assertIs(is_growing(web, plan, value), told and gain(plan, value) == 1)
                    seen[told] += 1
                    if not told:
                        self.refused(web, plan, value)
        self.assertGreater(min(seen.values()), 30)

    def refused(self, web, plan, value):
        with self.assertRaises(InvalidQuestion) as caught:
            turned(web, plan, value)
        self.assertEqual(caught.exception.at, 2)

    def test_odd_values(self):
        web, plan = (6, ((0, 1), (0, 5), (1, 2), (2, 3), (3, 4), (4, 5))), ((1, 2), (3, 4))
        good = {repr(turn) for turn in plain_turns(web, plan)}
        for value in ODD_VALUES + [(word, people) for word in ("way", "ring", "Way", "", None, 0, b"way", ("way",))
                                   for people in ODD_VALUES]:
            told = is_turn(web, plan, value)
            self.assertIs(told, repr(value) in good, value)
            self.assertIs(is_growing(web, plan, value), told and gain(plan, value) == 1)
            if not told:
                self.refused(web, plan, value)

    def test_by_hand(self):
        web = (6, ((0, 1), (0, 3), (0, 5), (1, 2), (2, 3), (3, 4), (4, 5)))
        plan = ((1, 2), (3, 4))
        for value in (("way", (0, 1, 2, 3, 4, 5)), ("way", (5, 4, 3, 2, 1, 0)), ("way", (2, 1)), ("way", (0, 5)),
                      ("way", (0, 1, 2)), ("way", (1, 2, 3, 4)), ("way", (2, 1, 0))):
            self.assertIs(is_turn(web, plan, value), True, value)
        for value in (("way", ()), ("way", (0,)), ("way", (0, 1)), ("way", (0, 1, 2, 3)), ("way", (2, 3)),
                      ("way", (0, 5, 4)), ("way", (0, 2)), ("way", (1, 2, 1)), ("way", [2, 1]), ["way", (2, 1)],
                      ("way", (2, True)), ("ring", (1, 2, 3, 4)), ("ring", (1, 2)), ("ring", (0, 1, 2)), ("way", (6, 0)),
                      ("ring", ()), ("ring", (0, 1, 2, 3, 4, 5)), ("path", (2, 1)), ("way", (2, 1), ()), ("way", (-1, 0))):
            self.assertIs(is_turn(web, plan, value), False, value)
            self.refused(web, plan, value)
        ring = ("ring", (0, 1, 2, 3))
        self.assertIs(is_turn(web, ((0, 1), (2, 3)), ring), True)
        self.assertIs(is_turn(web, ((0, 3), (1, 2)), ("ring", (2, 3, 0, 1))), True)
        self.assertIs(is_turn(web, ((0, 1),), ring), False)
        self.assertEqual(turned(web, ((0, 1), (2, 3)), ring), ((0, 3), (1, 2)))
        self.assertEqual(gain(((0, 1), (2, 3)), ring), 0)
        self.assertIs(is_growing(web, ((0, 1), (2, 3)), ring), False)
