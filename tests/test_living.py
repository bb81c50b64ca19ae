"""Promises [72] to [74]: lives, changes and promises."""

import random
import unittest

from givesifgets.deeds import do_all
from givesifgets.errors import InvalidQuestion
from givesifgets.kept import kept_lot
from givesifgets.living import begun, is_life, open_web, served_now
from givesifgets.livingchanges import changed, is_change, touched, ways_of
from givesifgets.promises import price, without_promises
from givesifgets.registry import registry_of
from givesifgets.strands import strands
from givesifgets.turns import is_turn, turned
from givesifgets.worlds import is_world, start_world
from tests.plain import (ODD_VALUES, all_plans, all_values_near, drawn_order, near_values, only_tuples, people_in)
from tests.plainlives import (drawn_life, getting, likely_changes, plain_behind, plain_is_change, plain_kept, plain_open,
                              plain_people_left, plain_ring, plain_served, plain_web_left)
from tests.plainworlds import drawn_registry, drawn_run, plain_start
from tests.test_worlds import great_registry

REGISTRY = registry_of([[1], [0, 2], [1, 3], [2]], [0, 1, 2], [(0, 0), (1, 1), (2, 2)], [])


def drawn_lives(seed, many, longest=6):
    rng = random.Random(seed)
    for _ in range(many):
        yield drawn_life(rng, longest)


def in_order(plan):
    return tuple(sorted(plan))


class Lives(unittest.TestCase):
    def test_begun(self):
        rng = random.Random(721)
        for _ in range(150):
            world = drawn_run(rng, plain_start(drawn_registry(rng)), rng.randint(0, 8))[1][-1]
            order = drawn_order(rng, len(world[1][1]))
            told = begun(world=world, order=order)
            self.assertTrue(type(told) is tuple and only_tuples(told))
            self.assertEqual(told[:3], (world, order, ()))
            self.assertIn(told[3], [in_order(plan) for plan in all_plans(plain_web_left(world))])
            self.assertEqual(tuple(sorted(people_in(told[3]))), plain_kept(plain_web_left(world), order))
            self.assertIs(is_life(told), True)

    def test_open_webs_and_who_is_served(self):
        promised = 0
        for life in drawn_lives(722, 200):
            self.assertEqual(open_web(life=life), plain_open(life[0], life[2]))
            self.assertEqual(served_now(life=life), tuple(plain_served(life)))
            promised += len(life[2]) > 0
        self.assertGreater(promised, 20)

    def plain_is_life(self, value):
        if type(value) is not tuple or len(value) != 4 or not is_world(value[0]):
            return False
        world, order, promised, plan = value
        n = len(world[1][1])
        if type(order) is not tuple or not all(type(person) is int for person in order) or sorted(order) != list(range(n)):
            return False
        plans = {repr(in_order(row)) for row in all_plans(plain_web_left(world))}
        if repr(promised) not in plans:
            return False
        web = plain_open(world, promised)
        if repr(plan) not in {repr(in_order(row)) for row in all_plans(web)}:
            return False
        return tuple(sorted(people_in(plan))) == plain_kept(web, order)

    def test_each_plan_and_promise(self):
        """All promised plans and all plans, for some worlds and orders: just those that fit are lives."""
        rng = random.Random(723)
        seen = {True: 0, False: 0}
        for life in drawn_lives(724, 40, 3):
            world, order = life[:2]
            plans = [in_order(plan) for plan in all_plans(plain_web_left(world))]
            pairs = [(rng.choice(plans), rng.choice(plans)) for _ in range(40)] + [((), plan) for plan in plans[:40]]
            for promised, plan in pairs:
                for value in ((world, order, promised, plan), (world, order[::-1], promised, plan)):
                    wanted = self.plain_is_life(value)
                    self.assertIs(is_life(value=value), wanted, value)
                    seen[wanted] += 1
        self.assertGreater(min(seen.values()), 100)

    def test_values_near(self):
        rng = random.Random(725)
        seen = {True: 0, False: 0}
        for life in drawn_lives(726, 25):
            values = [value if type(value) is not tuple else life[:1] + value for value in all_values_near([life[1:]])]
            values += [(value,) + life[1:] for value in rng.sample(list(near_values(life[0])), 15) + ODD_VALUES]
            values += [list(life), life, life[:1] + (drawn_order(rng, len(life[1])),) + life[2:], life[:3], life + ((),)]
            for value in values:
                wanted = self.plain_is_life(value)
                self.assertIs(is_life(value), wanted, value)
                seen[wanted] += 1
        self.assertGreater(min(seen.values()), 60)
        for odd in ODD_VALUES:
            self.assertIs(is_life(odd), False)

    def test_what_is_no_life(self):
        world = start_world(REGISTRY)
        life = begun(world, (1, 0, 2))
        self.assertEqual(life, (world, (1, 0, 2), (), ((0, 1),)))
        for value in ((world, (1, 2, 0), (), ((0, 1),)), (world, (1, 0, 2), ((0, 1),), ((0, 1),)), (world, (1, 0, 2), (), ()),
                      (world, (1, 0, 2), ((0, 2),), ()), (world, [1, 0, 2], (), ((0, 1),)), (world, (1, 0, 2), [], ((0, 1),)),
                      (world, (1, 0, 2), (), [(0, 1)]), (world, (1, 0, 2), (), ([0, 1],)), (world, (True, 0, 2), (), ((0, 1),)),
                      (world, (1, 0, 2), (), ((False, 1),)), (world, (1, 0), (), ((0, 1),)), (world, (1, 0, 2), ((0, 1), (1, 2)), ()),
                      (world, (1, 0, 2), (), ((1, 2),))):
            self.assertIs(is_life(value), False, value)
        self.assertIs(is_life((world, (1, 2, 0), (), ((1, 2),))), True)
        # promised against the order, yet a life
        self.assertIs(is_life((world, (1, 0, 2), ((1, 2),), ())), True)


class Changes(unittest.TestCase):
    def look(self, life, change):
        """A change that can be made: the life behind it is as the document tells."""
        before = repr((life, change))
        told, ways, lot = changed(life=life, change=change), ways_of(life=life, change=change), touched(life=life, change=change)
        self.assertTrue(only_tuples((told, ways, lot)))
        self.assertEqual(repr((life, change)), before)
        world, order, promised = plain_behind(life, change)
        self.assertEqual(repr(told[:3]), repr((world, order, promised)))
        self.assertIs(is_life(told), True)
        web = plain_open(world, promised)
        freed = change[1:] if change[0] == "free" else ()
        rest = in_order(pair for pair in life[3] + freed if pair in web[1])
        plan = rest
        for way in ways:
            self.assertEqual(way[0], "way")
            self.assertIs(is_turn(web, plan, way), True)
            plan = turned(web, plan, way)
        self.assertEqual(plan, told[3])
        self.assertEqual(ways, tuple(sorted(ways)))
        self.assertEqual(ways, strands(rest, plan))
        self.look_at_touched(life, change, told, ways, lot)
        return ways

    def look_at_touched(self, life, change, told, ways, lot):
        left, web = plain_people_left(told[0]), plain_web_left(told[0])
        wanted = set(left) - set(plain_people_left(life[0]))
        wanted |= {change[1]} if change[0] == "move" else set()
        wanted |= set(change[1]) if change[0] == "free" else set()
        wanted |= {person for pair in life[2] + life[3] if pair not in web[1] for person in pair}
        self.assertEqual(lot, tuple(sorted(wanted & set(left))))
        for way in ways:
            self.assertTrue(set(way[1]) & set(lot))
        self.assertLessEqual(len(ways), len(lot))
        lost = [person for person in plain_served(life) if person in left and person not in plain_served(told)]
        self.assertLessEqual(len(lost), len(lot))
        on_ways = {person for way in ways for person in way[1]}
        partners = {person: sum(pair) - person for pair in life[2] + life[3] for person in pair}
        later = {person: sum(pair) - person for pair in told[2] + told[3] for person in pair}
        for person in left:
            # neither touched nor on a way he keeps his partner
            if person not in lot and person not in on_ways:
                self.assertEqual(later.get(person), partners.get(person))

    def test_changes_made_and_refused(self):
        rng = random.Random(731)
        seen, turns = {}, 0
        for life in drawn_lives(732, 1000):
            for change in likely_changes(rng, life):
                wanted = plain_is_change(life, change)
                self.assertIs(is_change(life=life, value=change), wanted, (life, change))
                name = (change[0], wanted)
                seen[name] = seen.get(name, 0) + 1
                if wanted:
                    turns += len(self.look(life, change))
                else:
                    with self.assertRaises(InvalidQuestion) as caught:
                        changed(life, change)
                    self.assertEqual(caught.exception.at, 1)
        for word in ("deed", "move", "promise", "free", "all"):
            self.assertGreater(seen[word, True], 60)
        self.assertGreater(seen["deed", False], 60)
        self.assertGreater(turns, 200)

    def test_values_near_changes(self):
        rng = random.Random(733)
        seen = {True: 0, False: 0}
        for life in drawn_lives(734, 30):
            pairs = list(plain_web_left(life[0])[1])
            rows = likely_changes(rng, life) + [(word, pair) for word in ("promise", "free") for pair in pairs[:3]]
            rows += [("all",), ("all", ()), ("move", 0, len(life[1])), ("move", 0, 0), ("move", len(life[1]), 0), ("deed",)]
            values = [value for row in rows for value in [row] + rng.sample(list(near_values(row)) * 3, 30)]
            values += ODD_VALUES + [(word, odd) for word in ("deed", "promise", "free", "all") for odd in ODD_VALUES]
            values += [("move", odd, 0) for odd in ODD_VALUES] + [("move", 0, odd) for odd in ODD_VALUES]
            for value in values:
                wanted = plain_is_change(life, value)
                self.assertIs(is_change(life, value), wanted, (life, value))
                seen[wanted] += 1
                if not wanted:
                    with self.assertRaises(InvalidQuestion) as caught:
                        changed(life, value)
                    self.assertEqual(caught.exception.at, 1)
        self.assertGreater(min(seen.values()), 150)

    def test_newcomers_last(self):
        life = begun(start_world(REGISTRY), (1, 0, 2))
        later = changed(life, ("deed", ("come", 3, (3,))))
        self.assertEqual(later[1], (1, 0, 2, 3))
        self.assertEqual(touched(life, ("deed", ("come", 3, (3,)))), (3,))
        self.assertEqual(changed(later, ("deed", ("come", None, (0,))))[1], (1, 0, 2, 3))

    def test_promised_pairs_that_vanish(self):
        """By a test, by somebody who goes away, by a ring or link: by nothing else."""
        world = start_world(registry_of([[0]], [0, 0, 0, 0], [(0, 0), (0, 1), (0, 2), (0, 3), (0, None)], []))
        life = begun(world, (0, 1, 2, 3))
        for pair in life[3]:
            life = changed(life, ("promise", pair))
        one, other = life[2]
        self.assertEqual(life[3], ())
        for deed, left in ((("test", one[0], one[1], False), (other,)), (("test", one[0], one[1], True), (one, other)),
                           (("test", one[0], other[1], False), (one, other)), (("away", one[1]), (other,)),
                           (plain_ring(world, other), (one,)), (("day",), (one, other)), (("come", 0, (0,)), (one, other))):
            change = ("deed", deed)
            self.assertIs(is_change(life, change), True, deed)
            later = changed(life, change)
            self.assertEqual(later[2], left, deed)
            self.look(life, change)
        # a link to somebody promised, or a ring across two promised pairs, breaks a promise
        for deed in (("link", (4, one[0])), ("ring", ((one[0], other[0]), (other[0], one[0]))),
                     ("ring", ((0, 1), (1, 2), (2, 0))), ("ring", ((0, 1), (1, 2), (2, 3), (3, 0)))):
            self.assertEqual(do_all(world, [deed])[2] != (), True)
            self.assertIs(is_change(life, ("deed", deed)), False)
        # a ring of other friends, by which just these two get, does not
        self.assertIs(is_change(life, ("deed", plain_ring(world, one))), True)
        self.assertIs(is_change(changed(life, ("free", one)), ("deed", ("link", (4, one[0])))), True)

    def test_by_one_another(self):
        """Who is served hangs on world, order and promises alone."""
        rng = random.Random(735)
        for life in drawn_lives(736, 60):
            for change in likely_changes(rng, life):
                if is_change(life, change):
                    later = changed(life, change)
                    again = tuple(sorted(kept_lot(open_web(later), later[1]) + tuple(people_in(later[2]))))
                    self.assertEqual(served_now(later), again)


class Promises(unittest.TestCase):
    def plain_price(self, life):
        that = set(plain_kept(plain_web_left(life[0]), life[1]))
        this = set(plain_served(life))
        return (tuple(sorted(that - this)), tuple(sorted(this - that)))

    def test_price(self):
        costs = 0
        for life in drawn_lives(741, 1000, 12):
            told = price(life=life)
            self.assertTrue(type(told) is tuple and only_tuples(told))
            self.assertEqual(told, self.plain_price(life))
            other = without_promises(life=life)
            self.assertEqual(other[:3], life[:2] + ((),))
            self.assertIs(is_life(other), True)
            self.assertLessEqual(len(told[0]), len(told[1]) + 2 * len(life[2]))
            if not life[2]:
                self.assertEqual(told, ((), ()))
            costs += told != ((), ())
        self.assertGreater(costs, 5)

    def test_nobody_comes_or_goes_by_a_promise(self):
        promises = 0
        for life in drawn_lives(742, 300):
            for pair in life[3]:
                later = changed(life, ("promise", pair))
                self.assertEqual(served_now(later), served_now(life))
                self.assertEqual((price(later), ways_of(life, ("promise", pair))), (price(life), ()))
                self.assertEqual(touched(life, ("promise", pair)), ())
                self.assertEqual(set(later[3]), set(life[3]) - {pair})
                promises += 1
        self.assertGreater(promises, 150)

    def test_done_pairs(self):
        """When a pair of the plan or a promised one is done, nobody else comes or goes."""
        done = 0
        for life in drawn_lives(743, 300):
            for pair in life[2] + life[3]:
                change = ("deed", plain_ring(life[0], pair))
                self.assertEqual(getting(change[1]), set(pair))
                later = changed(life, change)
                self.assertEqual(set(served_now(later)), set(served_now(life)) - set(pair))
                done += 1
            later = changed(life, ("all",))
            self.assertEqual(later[2:], ((), ()))
            self.assertEqual(set(later[0][2]), set(life[0][2]) | set(served_now(life)))
        self.assertGreater(done, 200)

    def test_a_costly_promise(self):
        """0 and 1 are promised to one another; then come two whom they could help: the promise costs both."""
        registry = registry_of([[1, 2], [0, 3], [0], [1]], [0, 1], [(0, 0), (1, 1)], [])
        life = begun(start_world(registry), (0, 1))
        self.assertEqual(life[3], ((0, 1),))
        life = changed(life, ("promise", (0, 1)))
        for kind, friend in ((2, 2), (3, 3)):
            life = changed(life, ("deed", ("come", kind, (friend,))))
        self.assertEqual((life[2:], price(life)), ((((0, 1),), ()), ((2, 3), ())))
        freed = changed(life, ("free", (0, 1)))
        self.assertEqual((freed[2:], price(freed)), (((), ((0, 2), (1, 3))), ((), ())))
        self.assertEqual(touched(life, ("free", (0, 1))), (0, 1))

    def test_sixty_people(self):
        rng = random.Random(744)
        life = begun(start_world(great_registry()), drawn_order(rng, 60))
        for at in range(12):
            life = changed(life, ("promise", life[3][at % len(life[3])]))
            life = changed(life, ("move", rng.randrange(60), rng.randrange(60)))
            if at % 3 == 0:
                life = changed(life, ("deed", ("away", rng.choice(served_now(life)))))
        self.assertIs(is_life(life), True)
        lost, won = price(life)
        self.assertLessEqual(len(lost), len(won) + 2 * len(life[2]))
        self.assertEqual(changed(life, ("all",))[0][2], served_now(life))
