"""Promises [60] to [62]: deeds done and refused, and what always holds."""

import copy
import itertools
import random
import unittest

from givesifgets.deeds import can_do, do_all, do_deed, ring_deed
from givesifgets.errors import InvalidDeed
from givesifgets.registry import registry_of
from givesifgets.worlds import is_world, links_left, start_world
from tests.plain import ODD_VALUES, Sack, all_values_near, only_tuples
from tests.plainworlds import (drawn_registry, drawn_run, has_friends, likely_deeds, owner_of, plain_do, plain_start,
                               plain_ties, wrong_entry)
from tests.test_worlds import REGISTRY, drawn_worlds, great_registry

DEED_WORDS = ("test", "ring", "link", "away", "back", "come", "day")


def forms_of_deeds(world):
    """One deed of each form, whether or not it can be done."""
    ties = plain_ties(world[1]) or [(0, 0)]
    return [("test",) + ties[0] + (True,), ("test",) + ties[-1] + (False,), ("ring", tuple(ties[:2])), ("ring", (ties[0],)),
            ("ring", ()), ("link", ties[0]), ("link", ties[-1]), ("away", 0), ("back", 0), ("come", 0, (0, 0)),
            ("come", None, (0,)), ("come", 0, ()), ("day",)]


class Deeds(unittest.TestCase):
    def check(self, world, deed):
        """Whether the deed could be done; it must be done, or refused, as the plain machine does."""
        wrong = wrong_entry(world, deed)
        before = repr(world)
        self.assertIs(can_do(world=world, deed=deed), wrong is None, (world, deed))
        if wrong is None:
            told = do_deed(world=world, deed=deed)
            self.assertEqual(repr(told), repr(plain_do(world, deed)), (world, deed))
            self.assertTrue(is_world(told) and only_tuples(told))
        else:
            with self.assertRaises(InvalidDeed) as caught:
                do_deed(world, deed)
            self.assertEqual(repr(caught.exception.at), repr(wrong), (world, deed))
        self.assertEqual(repr(world), before)
        return wrong is None

    def test_likely_deeds(self):
        rng = random.Random(611)
        seen = {word: [0, 0] for word in DEED_WORDS}
        for world in drawn_worlds(612, 300, 10):
            for deed in likely_deeds(rng, world):
                seen[deed[0]][self.check(world, deed)] += 1
        for word in ("test", "ring", "link", "away", "back", "come", "day"):
            self.assertGreater(seen[word][1], 40, word)

    def test_each_entry_wrong_in_each_way(self):
        rng = random.Random(613)
        wrong = {(word, at): 0 for word, many in (("test", 4), ("ring", 2), ("link", 2), ("away", 2), ("back", 2),
                                                  ("come", 3), ("day", 1)) for at in range(many)}
        done = 0
        for world in drawn_worlds(614, 40, 8):
            rows = rng.sample(likely_deeds(rng, world), 1) + forms_of_deeds(world)
            for deed in rows:
                for value in [deed] + [deed[:at] + (odd,) + deed[at + 1:] for at in range(len(deed))
                                       for odd in rng.sample(ODD_VALUES, 12) + [0, 1, 2, 3, -1, 99, True, False, None]]:
                    at = wrong_entry(world, value)
                    done += self.check(world, value)
                    if at is not None and (deed[0], at) in wrong:
                        wrong[deed[0], at] += 1
        self.assertGreater(done, 300)
        self.assertGreater(min(wrong.values()), 10)

    def test_values_near_deeds(self):
        for world in drawn_worlds(615, 6, 6):
            for value in all_values_near(forms_of_deeds(world)):
                self.check(world, value)
            for value in ODD_VALUES:
                for word in DEED_WORDS:
                    self.check(world, (word, value))
                    self.check(world, (word, value, value))
                    self.check(world, (word, value, value, value))
                    self.check(world, (value, word))

    def test_rings_of_all_ties(self):
        """All tuples of two ties, and of three, free friends among them, and the same rings begun elsewhere."""
        done = 0
        registry = registry_of([[0], [0]], [0, 0, 0], [(0, 0), (0, 1), (1, 2), (1, 2), (0, None)], [(0, 2)])
        for world in (start_world(registry), do_all(start_world(registry), [("away", 1)]),
                      do_all(start_world(registry), [("link", (4, 0))])):
            ties = plain_ties(registry) + [(0, 2), (0, 0)]
            for size in (1, 2, 3):
                for row in itertools.product(ties, repeat=size):
                    done += self.check(world, ("ring", row))
        self.assertGreater(done, 9)

    def test_long_rings(self):
        n = 9
        registry = registry_of([[0]], [0] * n, [(0, person) for person in range(n)], [])
        world = start_world(registry)
        ties = tuple((person, (person + 1) % n) for person in range(n))
        self.assertTrue(self.check(world, ("ring", ties)))
        self.assertTrue(self.check(world, ("ring", ties[4:] + ties[:4])))
        self.assertEqual(do_deed(world, ("ring", ties))[2:5], (tuple(range(n)), tuple(range(n)), ()))
        self.assertFalse(self.check(world, ("ring", ties[::-1])))
        self.assertFalse(self.check(world, ("ring", ties[:-1])))
        self.assertFalse(self.check(world, ("ring", ties + ties)))
        self.assertFalse(self.check(world, ("ring", ((0, 1), (1, 0), (0, 1), (1, 0)))))
        self.assertFalse(self.check(world, ("ring", ((0, 0),))))
        self.assertFalse(self.check(world, ("ring", ((0, 1), (1, 0), (2, 3), (3, 2)))))
        self.assertFalse(self.check(world, ("ring", list(ties))))
        behind = do_deed(world, ("ring", ((0, 1), (1, 0))))
        # somebody who has got, somebody away
        self.assertFalse(self.check(behind, ("ring", ((1, 2), (2, 1)))))
        self.assertFalse(self.check(do_deed(world, ("away", 2)), ("ring", ((1, 2), (2, 1)))))
        self.assertTrue(self.check(behind, ("ring", ((3, 2), (2, 3)))))

    def test_tests(self):
        world = start_world(REGISTRY)
        self.assertEqual(do_deed(world, ("test", 0, 1, True)), world)
        behind = do_deed(world, ("test", 0, 1, False))
        self.assertEqual(behind[1][3], ((0, 1), (0, 2)))
        # twice: the pair is barred now, there is no tie
        for holds in (True, False):
            with self.assertRaises(InvalidDeed) as caught:
                do_deed(behind, ("test", 0, 1, holds))
            self.assertEqual(caught.exception.at, 2)
        for deed, at in ((("test", 0, 0, True), 2), (("test", 0, 2, True), 2), (("test", 4, 0, True), 1),
                         (("test", 0, 3, True), 2), (("test", 4, 9, 7), 1), (("test", 0, 1, 1), 3), (("test", 0, 1, 0), 3),
                         (("test", 0, 1, None), 3), (("test", 0, 1), 0), (("test", 0, 0, 1), 2), ((), 0), (("day", 0), 0),
                         (["day"], 0), (("Day",), 0), ((("day",),), 0), (("link", (3, 2), 0), 0)):
            with self.assertRaises(InvalidDeed) as caught:
                do_deed(world, deed)
            self.assertEqual(caught.exception.at, at, deed)

    def test_links(self):
        world = start_world(REGISTRY)
        self.assertTrue(self.check(world, ("link", (3, 0))))
        # a friend whose owner is not due
        self.assertFalse(self.check(world, ("link", (1, 0))))
        due = do_all(world, [("day",), ("day",), ("link", (3, 2))])
        self.assertEqual(due[4], ((2, 2),))
        self.assertTrue(self.check(due, ("link", (2, 0))))
        self.assertFalse(self.check(due, ("link", (3, 0))))
        self.assertFalse(self.check(due, ("link", (2, 2))))
        self.assertFalse(self.check(do_deed(due, ("away", 2)), ("link", (2, 0))))
        self.assertFalse(self.check(do_deed(due, ("away", 0)), ("link", (2, 0))))
        self.assertTrue(self.check(do_all(due, [("away", 2), ("back", 2)]), ("link", (2, 0))))
        self.assertEqual(do_all(due, [("day",), ("link", (2, 0))])[4], ((0, 3),))
        # to somebody without friends: nobody is due
        alone = registry_of([[0]], [0, 0], [(0, 0), (0, None)], [])
        self.assertEqual(do_deed(start_world(alone), ("link", (1, 1)))[2:5], ((1,), (1,), ()))
        self.assertEqual(do_all(start_world(alone), [("link", (1, 0)), ("link", (0, 1))])[2:5], ((0, 1), (0, 1), ()))

    def test_newcomers(self):
        world = start_world(REGISTRY)
        self.assertEqual(do_deed(world, ("come", 1, (0, 1)))[1],
                         (((0,), (0,)), (0, 0, 0, 1), REGISTRY[2] + ((0, 3), (1, 3)), ((0, 2),)))
        self.assertEqual(do_deed(world, ("come", None, (0, 1)))[1],
                         (((0,), (0,)), (0, 0, 0), REGISTRY[2] + ((0, None), (1, None)), ((0, 2),)))
        self.assertEqual(do_deed(world, ("come", 0, ()))[1][1:3], ((0, 0, 0, 0), REGISTRY[2]))
        self.assertEqual(do_deed(world, ("come", None, ())), world)
        for many, friends in ((59, 118), (59, 120), (60, 119), (60, 120), (58, 117)):
            registry = registry_of([[0]], [0] * many, [(0, None)] * friends, [])
            for kind in (0, None, 1, True):
                for size in range(5):
                    self.check(start_world(registry), ("come", kind, (0,) * size))
        full = start_world(registry_of([[0]], [0] * 60, [], []))
        with self.assertRaises(InvalidDeed) as caught:
            do_deed(full, ("come", 0, ()))
        self.assertEqual(caught.exception.at, 1)
        self.assertTrue(can_do(full, ("come", None, (0,) * 120)))
        with self.assertRaises(InvalidDeed) as caught:
            do_deed(full, ("come", None, (0,) * 121))
        self.assertEqual(caught.exception.at, 2)

    def test_do_all(self):
        rng = random.Random(616)
        for _ in range(150):
            start = plain_start(drawn_registry(rng))
            deeds, worlds = drawn_run(rng, start, rng.randint(0, 10))
            self.assertEqual(do_all(world=start, deeds=deeds), worlds[-1])
            self.assertEqual(do_all(start, tuple(deeds)), worlds[-1])
            at = rng.randint(0, len(deeds))
            bad = rng.choice([("back", 99), None, ("day", 1), (), [], ("ring", ())])
            spoilt = deeds[:at] + [bad] + deeds[at:] + [bad]
            before = copy.deepcopy(spoilt)
            with self.assertRaises(InvalidDeed) as caught:
                do_all(start, spoilt)
            self.assertEqual(caught.exception.at, at)
            self.assertEqual(spoilt, before)
        self.assertEqual(do_all(start_world(REGISTRY), []), start_world(REGISTRY))

    def test_can_do_any_value(self):
        world = start_world(REGISTRY)
        for odd in ODD_VALUES:
            self.assertIs(can_do(world, odd), False)
        sack = Sack()
        for deed in (sack, (sack,), ("link", sack), ("ring", (sack, sack)), ("test", sack, sack, sack), ("come", sack, sack),
                     ("link", (3, 0)), ({}, {}), ([], []), (("link",), (3, 0))):
            self.assertIs(can_do(world, deed), deed == ("link", (3, 0)))


class Always(unittest.TestCase):
    def look(self, deeds, worlds):
        """Who got in which deed, from which friend; and what holds in each world."""
        got_at, giver = {}, {}
        for at, deed in enumerate(deeds):
            registry = worlds[at + 1][1]
            for friend, person in deed[1] if deed[0] == "ring" else (deed[1],) if deed[0] == "link" else ():
                # nobody gets twice, no friend gives twice
                self.assertNotIn(person, got_at)
                self.assertNotIn(friend, giver.values())
                got_at[person], giver[person] = at, friend
            for person, friend in giver.items():
                owner = owner_of(registry, friend)
                if owner is not None:
                    # his person got in the same deed, if it is a ring, or in an earlier one
                    same = got_at[owner] == got_at[person] and deeds[got_at[person]][0] == "ring"
                    self.assertTrue(got_at[owner] < got_at[person] or same)
            world = worlds[at + 1]
            self.assertEqual(world[2], tuple(sorted(got_at)))
            self.assertEqual(world[3], tuple(sorted(giver.values())))
            self.assertLessEqual(set(worlds[at][2]), set(world[2]))
            self.assertLessEqual(set(worlds[at][3]), set(world[3]))
            free = [friend for friend in world[3] if owner_of(registry, friend) is None]
            bare = [person for person in world[2] if not has_friends(registry, person)]
            self.assertEqual(len(free), len(world[4]) + len(bare))
            gave = {owner_of(registry, friend) for friend in world[3]}
            wanted = [person for person in world[2] if has_friends(registry, person) and person not in gave]
            self.assertEqual([person for person, _ in world[4]], wanted)
            self.assertTrue(all(since <= world[0] for _, since in world[4]))

    def test_drawn_runs(self):
        rng = random.Random(621)
        got = 0
        for _ in range(150):
            start = plain_start(drawn_registry(rng))
            deeds, _ = drawn_run(rng, start, 25)
            worlds = [start]
            for deed in deeds:
                worlds.append(do_deed(worlds[-1], deed))
                self.assertIs(is_world(worlds[-1]), True)
            self.look(deeds, worlds)
            got += len(worlds[-1][2])
        self.assertGreater(got, 300)

    def test_a_great_run(self):
        """Sixty people: many hundred deeds, done soon enough."""
        rng = random.Random(622)
        world, deeds = start_world(great_registry()), []
        worlds = [world]
        for at in range(700):
            links = links_left(world)
            ties = plain_ties(world[1])
            choices = [("day",), ("test",) + rng.choice(ties) + (False,)]
            choices += [("link", rng.choice(links))] if links and at > 350 else []
            person = rng.randrange(60)
            choices.append(("back" if person in world[5] else "away", person))
            ring = ring_deed(world, tuple(rng.sample(range(60), 2)))
            deed = ring or rng.choice(choices)
            world = do_deed(world, deed)
            deeds.append(deed)
            worlds.append(world)
        self.look(deeds, worlds)
        self.assertGreater(len(world[2]), 40)
        self.assertEqual(do_all(worlds[0], deeds), world)
