"""Promise [75]: rows of changes, diaries, and what waiting could have served."""

import random
import unittest

from givesifgets.errors import InvalidDeed
from givesifgets.keptpapers import beginnings
from givesifgets.living import begun
from givesifgets.livingchanges import changed
from givesifgets.lives import diary, done_lot, lived, seen_web, there_web
from givesifgets.search import largest_plan
from givesifgets.webs import pair_web
from givesifgets.worlds import start_world
from tests.plain import ODD_VALUES, drawn_order, only_tuples
from tests.plainlives import drawn_life, life_behind, plain_people_left, plain_served, plain_web_left
from tests.test_living import REGISTRY
from tests.test_worlds import great_registry


def with_alls(rng, life, many, allowed=None):
    """A row of changes that can be made, with an ("all",) in several places, and the lives along it."""
    changes, lives = [], [life]
    for _ in range(many):
        more, along = life_behind(rng, lives[-1], rng.randint(0, 3), allowed)
        changes, lives = changes + more, lives + along[1:]
        if not lives[-1][2] or allowed is None:
            changes.append(("all",))
            lives.append(changed(lives[-1], ("all",)))
    return changes, lives


def rows_of_changes(seed, many, allowed=None, longest=3):
    rng = random.Random(seed)
    for _ in range(many):
        life = drawn_life(rng, 0 if allowed else 4)
        changes, lives = with_alls(rng, life, rng.randint(0, longest), allowed)
        if rng.random() < 0.5:
            more, along = life_behind(rng, lives[-1], 2, allowed)
            changes, lives = changes + more, lives + along[1:]
        yield changes, lives


class Rows(unittest.TestCase):
    def test_lived(self):
        rng = random.Random(751)
        for changes, lives in rows_of_changes(752, 150):
            self.assertEqual(lived(life=lives[0], changes=changes), lives[-1])
            self.assertEqual(lived(lives[0], tuple(changes)), lives[-1])
            at = rng.randint(0, len(changes))
            bad = rng.choice([("all", 0), ("move", 0, 99), ("free", (0, 0)), ("promise", [0, 1]), ("deed", ("back", 99)), None])
            spoilt = changes[:at] + [bad] + changes[at:] + [bad]
            before = repr(spoilt)
            with self.assertRaises(InvalidDeed) as caught:
                lived(lives[0], spoilt)
            self.assertEqual(caught.exception.at, at)
            self.assertEqual(repr(spoilt), before)
        life = begun(start_world(REGISTRY), (1, 0, 2))
        self.assertEqual(lived(life, []), life)
        for odd in ODD_VALUES:
            with self.assertRaises(InvalidDeed) as caught:
                lived(life, (("all",), odd, ("all",)))
            self.assertEqual(caught.exception.at, 1)

    def test_diary(self):
        come, gone = 0, 0
        for changes, lives in rows_of_changes(753, 700):
            told = diary(life=lives[0], changes=changes)
            self.assertTrue(type(told) is tuple and only_tuples(told))
            wanted = []
            for one, later in zip(lives, lives[1:]):
                before, behind = set(plain_served(one)), set(plain_served(later))
                left = set(plain_people_left(later[0]))
                wanted.append((tuple(sorted(behind - before)), tuple(sorted((before & left) - behind))))
            self.assertEqual(told, tuple(wanted))
            come += sum(len(pair[0]) for pair in told)
            gone += sum(len(pair[1]) for pair in told)
        self.assertGreater(min(come, gone), 30)
        self.assertEqual(diary(begun(start_world(REGISTRY), (1, 0, 2)), []), ())

    def test_done_lots_and_webs(self):
        done = 0
        for changes, lives in rows_of_changes(754, 200):
            people, seen, there = set(), set(), set()
            for at, change in enumerate(changes):
                if change == ("all",):
                    world = lives[at][0]
                    people |= set(lives[at + 1][0][2]) - set(world[2])
                    seen |= set(plain_web_left(world)[1])
                    there |= {pair for pair in pair_web(world[1])[1] if not set(pair) & set(world[5])}
            n = len(lives[-1][0][1][1])
            self.assertEqual(done_lot(life=lives[0], changes=changes), tuple(sorted(people)))
            self.assertEqual(seen_web(life=lives[0], changes=changes), (n, tuple(sorted(seen))))
            self.assertEqual(there_web(life=lives[0], changes=changes), (n, tuple(sorted(there))))
            done += len(people)
        self.assertGreater(done, 200)
        life = begun(start_world(REGISTRY), (1, 0, 2))
        self.assertEqual((done_lot(life, ()), seen_web(life, ()), there_web(life, ())), ((), (3, ()), (3, ())))

    def test_doing_at_once_costs_nobodys_place(self):
        """Nobody is moved, nothing promised right ahead of an ("all",): no plan of the seen web serves more."""
        several = 0
        for changes, lives in rows_of_changes(755, 300, lambda change, life: change[0] not in ("move", "promise", "all"), 4):
            order = lives[-1][1]
            done = done_lot(lives[0], changes)
            counts = beginnings(seen_web(lives[0], changes), order)
            for many in range(len(order) + 1):
                self.assertLessEqual(counts[many], len([person for person in order[:many] if person in done]))
            several += len([change for change in changes if change == ("all",)]) > 1 and len(done) > 2
        self.assertGreater(several, 30)

    def test_waiting_could_have_served_twice_as_many_at_most(self):
        pairs = 0
        for changes, lives in rows_of_changes(757, 300):
            got = lives[-1][0][2]
            many = len(largest_plan(there_web(lives[0], changes)))
            self.assertLessEqual(many, len(got))
            pairs += many
        self.assertGreater(pairs, 150)

    def test_sixty_people(self):
        rng = random.Random(758)
        life = begun(start_world(great_registry()), drawn_order(rng, 60))
        away = rng.sample(range(60), 40)
        changes = [("deed", ("away", person)) for person in away] + [("all",)]
        for person in away:
            changes += [("deed", ("back", person)), ("deed", ("day",))] + ([("all",)] if person % 3 == 0 else [])
        done = done_lot(life, changes)
        counts = beginnings(seen_web(life, changes), life[1])
        self.assertTrue(all(counts[many] <= len(set(life[1][:many]) & set(done)) for many in range(61)))
        self.assertEqual(lived(life, changes)[0][2], done)
