"""Promises [79] and [80]: desks, and what holds of whatever is done at them."""

import random
import re
import unittest

from givesifgets.desk import Desk
from givesifgets.dockettexts import docket_text
from givesifgets.errors import GiveError, InvalidCommand, InvalidDeed, InvalidQuestion, InvalidText
from givesifgets.houses import House
from givesifgets.keptpapers import beginnings
from givesifgets.logrows import row_of
from givesifgets.worlds import is_world
from tests.plain import ODD_VALUES, Sack
from tests.plainlives import plain_kept, plain_people_left, plain_web_left
from tests.plainworlds import has_friends, owner_of, plain_do, wrong_entry
from tests.test_houses import TEXT, docket_with, drawn_docket, possible_deed, shown
from tests.test_worlds import great_registry


def desk_with(text):
    desk = Desk()
    desk.load(text)
    return desk


def words_of(*things):
    return " ".join(str(thing) for thing in things)


class Desks(unittest.TestCase):
    def refused(self, desk, command, error=InvalidCommand):
        """The command is refused, and nothing changes."""
        house = desk.house
        before = None if house is None else shown(house)
        with self.assertRaises(GiveError) as caught:
            desk.say(command)
        self.assertIs(type(caught.exception), error, command)
        self.assertIs(desk.house, house)
        self.assertEqual(None if house is None else shown(house), before)
        return caught.exception

    def test_letter_by_letter(self):
        desk = Desk()
        self.assertIsNone(desk.house)
        self.assertEqual(desk.load(text=TEXT), "ok")
        self.assertIsInstance(desk.house, House)
        for command, answer in (
                ("world", "day 0 got gave"), ("rows", "0"), ("plan", "0+2"), ("why 0", "kept"), ("why 1", "(0 1 2) by ()"),
                ("why 2", "kept"), ("do ring 0>2 2>0.", "ok"), ("plan", "nobody"), ("why 0", "got"), ("why 1", "(1) by ()"),
                ("world", "day 0 got 0 2 gave 0 2"), ("rows", "1"), ("do day.", "ok"), ("do away 1.", "ok"), ("why 1", "away"),
                ("do away 0.", "ok"), ("why 0", "got"), ("do come 0 0.", "ok"), ("do back 1.", "ok"), ("plan", "1+3"),
                ("world", "day 1 got 0 2 gave 0 2"), ("rows", "6"), ("cut 99999", "0"), ("cut 40", "1"), ("cut 39", "1"), ("rows", "4"),
                ("world", "day 1 got 0 2 gave 0 2"), ("why 1", "away"), ("cut 0", "4"), ("world", "day 0 got gave")):
            self.assertEqual(desk.say(command=command), answer, command)

    def test_plans_and_reasons(self):
        rng = random.Random(791)
        asked, several = 0, 0
        for _ in range(80):
            docket = drawn_docket(rng)
            desk = desk_with(docket_text(docket))
            for _ in range(rng.randint(0, 6)):
                self.assertEqual(desk.say("do " + row_of(possible_deed(rng, desk.house.world()))), "ok")
            house = desk.house
            pairs = ["%d+%d" % pair for pair in house.plan()]
            self.assertEqual(desk.say("plan"), " ".join(pairs) or "nobody")
            several += len(pairs) > 1
            day, _, got, gave, _, away = house.world()
            self.assertEqual(desk.say("world"), words_of("day", day, "got", *got, "gave", *gave))
            for person in range(len(house.order())):
                told = desk.say("why %d" % person)
                if person in got or person in away:
                    self.assertEqual(told, "got" if person in got else "away")
                elif house.reason(person) is None:
                    self.assertEqual(told, "kept")
                else:
                    groups, few = house.reason(person)
                    lots = ["(" + words_of(*lot) + ")" for lot in groups + (few,)]
                    self.assertEqual(told, " ".join(lots[:-1]) + " by " + lots[-1])
                    asked += 1
        self.assertGreater(min(asked, several * 3), 40)

    def test_several_groups(self):
        registry = (((1,), (0,)), (0, 0, 0, 1), ((0, 0), (0, 1), (0, 2), (1, 3)), ())
        desk = desk_with(docket_text((registry, (0, 1, 2, 3), ((0,), (1,), (2,), (3,)))))
        self.assertEqual((desk.say("plan"), desk.say("why 1"), desk.say("why 2")), ("0+3", "(0) (1) by (3)", "(0) (2) by (3)"))

    def test_no_house(self):
        desk = Desk()
        for command in ("plan", "rows", "world", "cut 0", "why 0", "do day.", "", "load", None):
            self.refused(desk, command)
        self.assertEqual(desk.load(TEXT), "ok")
        self.assertEqual(desk.say("rows"), "0")

    def test_what_is_no_command(self):
        desk = desk_with(TEXT)
        desk.say("do day.")
        for command in (
                "", " ", "plan ", " plan", "plan  ", "Plan", "PLAN", "plan\n", "\nplan", "plan 0", "plan.", "rows 1", "rows ", "row",
                "world 0", "worlds", "world\n", "cut", "cut ", "cut  0", " cut 0", "cut 0 ", "cut 00", "cut 01", "cut 0 0", "cut -1",
                "cut +1", "cut 1.0", "cut 100000", "cut 000001", "cut 1_0", "cut a", "cut \u0661", "cut \u00b2", "cut \uff11", "cut None",
                "why", "why ", "why 00", "why 1 2", "why 100000", "why \u0661", "why  1", "why one", "do", "do ", "do  day.", "do day. ",
                "do day", "do day.\n", "do  ", "do day. day.", "do ring 0>2.", "do ring 0>2  2>0.", "do away 01.", "do ring 0>2 2>0",
                "do away " + "9" * 1001 + ".", "day.", "day", "load", "do plan", "help", "do\nday.", "do\tday.", "plan\t", "do come - - 0.",
                "cut\n0", "why 0\n", "cut 0\r", "do away \u0661."):
            self.refused(desk, command)
        for odd in ODD_VALUES + [b"plan", ["plan"], ("plan",), {"plan"}, Sack(), 0]:
            self.refused(desk, odd)
        self.assertEqual(desk.say("cut 99999"), "0")

    def test_errors_of_the_functions(self):
        desk = desk_with(TEXT)
        for command, at in (("do away 3.", 1), ("do back 0.", 1), ("do test 9 0 holds.", 1), ("do test 0 0 fails.", 2),
                            ("do link 0>1.", 1), ("do ring 0>1 1>2.", 1), ("do come 1.", 1), ("do come - 1.", 2),
                            ("do away " + "9" * 1000 + ".", 1)):
            self.assertEqual(self.refused(desk, command, InvalidDeed).at, at)
        for command in ("why 3", "why 99999"):
            self.assertEqual(self.refused(desk, command, InvalidQuestion).at, 0)

    def test_texts_that_cannot_be_loaded(self):
        desk = Desk()
        for text in ODD_VALUES + ["kind", TEXT[:-1], TEXT + ";"]:
            with self.assertRaises(InvalidText):
                desk.load(text)
            self.assertIsNone(desk.house)
        desk.load(TEXT)
        desk.say("do day.")
        house, before = desk.house, shown(desk.house)
        for text in ODD_VALUES + ["kind", TEXT[:-1], TEXT + ";"]:
            with self.assertRaises(InvalidText) as caught:
                desk.load(text)
            self.assertIs(type(caught.exception.at), int)
            self.assertIs(desk.house, house)
            self.assertEqual(shown(house), before)
        self.assertEqual(desk.load(TEXT), "ok")
        self.assertEqual((desk.say("rows"), len(house)), ("0", 1))

    def test_near_commands(self):
        """Each command with one sign put in, left out or exchanged: answered or refused as its form tells."""
        form = re.compile(r"plan|rows|world|(cut|why) (0|[1-9][0-9]{0,4})|do [^\n]*")
        answered, refused = 0, 0
        for command in ("plan", "rows", "world", "cut 7", "why 1", "why 2"):
            for at in range(len(command) + 1):
                for sign in " .0x9-\n\u0661":
                    for value in (command[:at] + sign + command[at:], command[:at] + sign + command[at + 1:],
                                  command[:at] + command[at + 1:]):
                        desk = desk_with(TEXT)
                        desk.say("do day.")
                        if not form.fullmatch(value):
                            self.refused(desk, value)
                            refused += 1
                        elif value.startswith("why") and int(value[4:]) > 2:
                            self.assertEqual(self.refused(desk, value, InvalidQuestion).at, 0)
                        else:
                            self.assertIs(type(desk.say(value)), str)
                            answered += 1
        self.assertGreater(min(answered * 5, refused), 100)


class AllOfIt(unittest.TestCase):
    def check_always(self, world, giver):
        """Each friend who gave is free, or his person has got."""
        registry = world[1]
        for friend in world[3]:
            self.assertTrue(owner_of(registry, friend) is None or owner_of(registry, friend) in world[2])
        self.assertEqual(len(world[2]), len(world[3]))
        free = [friend for friend in world[3] if owner_of(registry, friend) is None]
        bare = [person for person in world[2] if not has_friends(registry, person)]
        self.assertEqual(len(free), len(world[4]) + len(bare))
        self.assertIs(is_world(world), True)
        self.assertTrue(all(friend in world[3] for friend in giver))

    def test_long_drawn_runs(self):
        """Whatever is done at a desk, in whatever order, wherever it is cut."""
        rng = random.Random(801)
        cuts, got = 0, 0
        for _ in range(25):
            docket = drawn_docket(rng)
            desk = desk_with(docket_text(docket))
            worlds, rows = [desk.house.world()], []
            for _ in range(60):
                choice = rng.random()
                if choice < 0.1:
                    signs = rng.randint(0, len("".join(rows)) + 3)
                    whole = 0
                    while whole < len(rows) and len("".join(rows[:whole + 1])) <= signs:
                        whole += 1
                    self.assertEqual(desk.say("cut %d" % signs), str(len(rows) - whole))
                    worlds, rows = worlds[:whole + 1], rows[:whole]
                    cuts += 1
                elif choice < 0.2:
                    with self.assertRaises(GiveError):
                        desk.say(rng.choice(["do away 99.", "why 99", "cut -1", "do", "x", "do link 0>99.", "", "plan 1"]))
                elif choice < 0.4 and desk.house.next_rings():
                    for ring in desk.house.next_rings():
                        self.do(desk, ring, worlds, rows)
                else:
                    self.do(desk, possible_deed(rng, worlds[-1]), worlds, rows)
                world = desk.house.world()
                self.assertEqual(world, worlds[-1])
                self.assertEqual(desk.house.log(), tuple(rows))
                self.assertEqual(desk.say("rows"), str(len(rows)))
                self.check_always(world, worlds[len(worlds) // 2][3])
            self.look_at_plan(desk, docket)
            got += len(desk.house.world()[2])
        self.assertGreater(min(cuts, got), 40)

    def do(self, desk, deed, worlds, rows):
        self.assertIsNone(wrong_entry(worlds[-1], deed))
        self.assertEqual(desk.say("do " + row_of(deed)), "ok")
        worlds.append(plain_do(worlds[-1], deed))
        rows.append(row_of(deed))

    def look_at_plan(self, desk, docket):
        """The plan is best for each beginning of the order, and each one left out is told why."""
        world, order = desk.house.world(), desk.house.order()
        self.assertEqual(order[:len(docket[1])], docket[1])
        web = plain_web_left(world)
        people = {int(word) for pair in desk.say("plan").split(" ") if pair != "nobody" for word in pair.split("+")}
        self.assertEqual(tuple(sorted(people)), plain_kept(web, order))
        for many, count in enumerate(beginnings(web, order)):
            self.assertEqual(count, len(people & set(order[:many])))
        for person in plain_people_left(world):
            told = desk.say("why %d" % person)
            self.assertEqual(told == "kept", person in people)
            self.assertTrue(told == "kept" or re.fullmatch(r"(\([0-9 ]+\) )+by \([0-9 ]*\)", told))

    def test_sixty_people(self):
        rng = random.Random(802)
        desk = desk_with(docket_text(docket_with(rng, great_registry())))
        for at in range(300):
            if at % 40 == 39:
                desk.say("cut %d" % rng.randint(0, 2 * at))
            elif at % 10 == 9:
                desk.say("plan")
                desk.say("why %d" % rng.randrange(60))
                desk.say("do " + row_of(desk.house.next_rings()[0]))
            else:
                person = rng.randrange(60)
                desk.say("do %s %d." % ("back" if person in desk.house.world()[5] else "away", person))
        self.check_always(desk.house.world(), ())

    def test_nothing_handed_in_is_changed(self):
        words = ["do", "day."]
        desk = desk_with(TEXT)
        deed = ("ring", ((0, 2), (2, 0)))
        desk.house.do(deed)
        self.assertEqual((deed, words), (("ring", ((0, 2), (2, 0))), ["do", "day."]))
        self.assertFalse(desk == desk_with(TEXT))
