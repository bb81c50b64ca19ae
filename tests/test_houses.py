"""Promises [76] and [77]: houses, what is done in them, and what they plan."""

import random
import unittest

from givesifgets.audits import is_reason, why_not
from givesifgets.dockettexts import docket_text
from givesifgets.errors import InvalidDeed, InvalidQuestion, InvalidText
from givesifgets.houses import House
from givesifgets.kept import kept_lot
from givesifgets.keptpapers import is_kept_paper
from givesifgets.logs import cut_log, log_of, mended, read_back
from givesifgets.plans import served
from givesifgets.reading import read_docket
from givesifgets.webs import arcs_of
from givesifgets.worlds import is_world, start_world, web_left
from tests.plain import ODD_VALUES, all_values_near, drawn_order, only_tuples
from tests.plainlives import plain_kept, plain_people_left, plain_ring, plain_web_left
from tests.plainworlds import drawn_registry, likely_deeds, plain_do, wrong_entry
from tests.test_dockets import drawn_docket as any_docket
from tests.test_worlds import great_registry

TEXT = ("kind 0 : 0 ; person 0 : 0 ; person 1 : 0 ; person 2 : 0 ; friend 0 : 0 for 0 ; friend 1 : 0 for 1 ; "
        "friend 2 : 0 for 2 ; order : 2 0 1 ; wishes 0 : 0 ; wishes 1 : 1 ; wishes 2 : 2 ;")


def docket_with(rng, registry):
    """A docket with a registry, and a drawn order and wishes."""
    n = len(registry[1])
    rows = []
    for person in range(n):
        others = [u for u, v in arcs_of(registry)[1] if v == person]
        rows.append(tuple(rng.sample(others, rng.randint(0, len(others)))) + (person,))
    return (registry, drawn_order(rng, n), tuple(rows))


def drawn_docket(rng):
    return docket_with(rng, drawn_registry(rng))


def possible_deed(rng, world):
    """A deed that can be done, mostly one of those that matter."""
    able = [deed for deed in likely_deeds(rng, world) if wrong_entry(world, deed) is None]
    return rng.choice(able)


def drawn_house(rng, longest=10):
    """A house with deeds done in it, its docket, and the worlds along the deeds."""
    docket = drawn_docket(rng)
    house, worlds, deeds = House(docket_text(docket)), [start_world(docket[0])], []
    for _ in range(rng.randint(0, longest)):
        deeds.append(possible_deed(rng, worlds[-1]))
        worlds.append(plain_do(worlds[-1], deeds[-1]))
        house.do(deeds[-1])
    return house, docket, deeds, worlds


def shown(house):
    """All that a house tells of how it stands."""
    return repr((house.registry(), house.order(), house.wishes(), house.world(), house.log(), len(house)))


class Houses(unittest.TestCase):
    def look(self, house, docket, deeds, worlds):
        """The house stands as plain deeds have led it."""
        self.assertEqual(house.world(), worlds[-1])
        self.assertEqual(house.registry(), worlds[-1][1])
        self.assertEqual(house.log(), log_of(deeds))
        self.assertEqual(len(house), len(deeds))
        n = len(worlds[-1][1][1])
        new = range(len(docket[1]), n)
        self.assertEqual(house.order(), docket[1] + tuple(new))
        self.assertEqual(house.wishes(), docket[2] + tuple((person,) for person in new))
        self.assertTrue(only_tuples((house.world(), house.order(), house.wishes(), house.log(), house.registry())))
        self.assertIs(is_world(house.world()), True)

    def test_begun(self):
        rng = random.Random(761)
        for at in range(60):
            docket = any_docket(rng) if at % 2 else drawn_docket(rng)
            house = House(text=docket_text(docket))
            self.look(house, docket, [], [start_world(docket[0])])

    def test_wrong_texts(self):
        rng = random.Random(762)
        texts = list(ODD_VALUES) + [TEXT[:-1], TEXT + " ;", TEXT.replace("order", "ordre"), "", b"kind", TEXT.split(" ")]
        for _ in range(30):
            words = TEXT.split(" ")
            words[rng.randrange(len(words))] = rng.choice(["", "x", "9", ";", "0"])
            texts.append(" ".join(words))
        wrong = 0
        for text in texts:
            at = None
            try:
                read_docket(text)
            except InvalidText as error:
                at = error.at
            if at is not None:
                with self.assertRaises(InvalidText) as caught:
                    House(text)
                self.assertEqual(caught.exception.at, at)
                wrong += 1
        self.assertGreater(wrong, 80)

    def test_deeds(self):
        rng = random.Random(763)
        for _ in range(80):
            house, docket, deeds, worlds = drawn_house(rng, 14)
            self.look(house, docket, deeds, worlds)
            self.assertIsNone(house.do(deed=("day",)))
            self.look(house, docket, deeds + [("day",)], worlds + [plain_do(worlds[-1], ("day",))])

    def test_refused_deeds_change_nothing(self):
        rng = random.Random(764)
        refused = 0
        for _ in range(15):
            house = drawn_house(rng)[0]
            values = list(all_values_near(rng.sample(likely_deeds(rng, house.world()), 1)))
            for value in rng.sample(values, 60) + ODD_VALUES:
                wrong = wrong_entry(house.world(), value)
                if wrong is not None:
                    before = shown(house)
                    with self.assertRaises(InvalidDeed) as caught:
                        house.do(value)
                    self.assertEqual((caught.exception.at, shown(house)), (wrong, before))
                    refused += 1
        self.assertGreater(refused, 900)

    def test_cut_at_every_sign(self):
        rng = random.Random(765)
        newcomers = 0
        for _ in range(40):
            docket = drawn_docket(rng)
            worlds, deeds = [start_world(docket[0])], []
            for at in range(7):
                new = ("come", rng.choice((0, None)), (0,) * rng.randint(0, 2))
                deeds.append(new if at == 3 else possible_deed(rng, worlds[-1]))
                worlds.append(plain_do(worlds[-1], deeds[-1]))
            newcomers += len(worlds[-1][1][1]) > len(docket[1])
            whole = [len("".join(log_of(deeds[:many]))) for many in range(8)]
            for signs in range(whole[-1] + 2):
                house = House(docket_text(docket))
                for deed in deeds:
                    house.do(deed)
                done = max(many for many in range(8) if whole[many] <= signs)
                self.assertEqual(house.cut(signs=signs), 7 - done)
                self.look(house, docket, deeds[:done], worlds[:done + 1])
                if signs % 5 == 0:
                    for deed in deeds[done:]:
                        house.do(deed)
                    self.look(house, docket, deeds, worlds)
        self.assertGreater(newcomers, 10)
        house = House(TEXT)
        self.assertEqual((house.cut(0), house.cut(10 ** 999), len(house)), (0, 0, 0))

    def test_refused_cuts_change_nothing(self):
        rng = random.Random(766)
        house = drawn_house(rng)[0]
        for _ in range(5):
            house.do(("day",))
        before = shown(house)
        for odd in ODD_VALUES:
            if type(odd) is not int or odd < 0:
                with self.assertRaises(InvalidQuestion) as caught:
                    house.cut(odd)
                self.assertEqual((caught.exception.at, shown(house)), (0, before))

    def test_within(self):
        rng = random.Random(767)
        for _ in range(60):
            house = drawn_house(rng)[0]
            before, handed = shown(house), (house.world(), house.log(), house.order())

            def work(inner):
                self.assertIs(inner, house)
                inner.do(possible_deed(rng, inner.world()))
                middle = shown(inner)
                deeper = inner.within(lambda again: (again.cut(0), again.do(("day",)), len(again))[2])
                self.assertEqual((deeper, shown(inner)), (1, middle))
                with self.assertRaises(KeyError):
                    inner.within(lambda again: (again.cut(2), {}["nothing"]))
                self.assertEqual(shown(inner), middle)
                inner.cut(rng.randint(0, 40))
                return ["told", inner.world()]

            told = house.within(work=work)
            self.assertEqual(told[0], "told")
            self.assertEqual(shown(house), before)
            self.assertEqual((house.world(), house.log(), house.order()), handed)
            for error in (ValueError("x"), InvalidDeed(3), StopIteration(), RuntimeError()):
                def fails(inner, error=error):
                    inner.do(("day",))
                    inner.cut(0)
                    raise error
                with self.assertRaises(type(error)) as caught:
                    house.within(fails)
                self.assertIs(caught.exception, error)
                self.assertEqual(shown(house), before)
        house = House(TEXT)
        self.assertIsNone(house.within(lambda inner: inner.do(("day",))))
        self.assertEqual(len(house), 0)

    def test_what_is_handed_out_stays(self):
        rng = random.Random(768)
        for _ in range(30):
            house = drawn_house(rng)[0]
            handed = [house.registry(), house.order(), house.wishes(), house.world(), house.log(), house.plan(), house.paper(),
                      house.next_rings()]
            before = repr(handed)
            for _ in range(6):
                house.do(possible_deed(rng, house.world()))
            house.cut(7)
            self.assertEqual(repr(handed), before)

    def test_unlike_houses(self):
        one, other = House(TEXT), House(TEXT)
        one.do(("day",))
        self.assertEqual((len(one), len(other)), (1, 0))
        for odd in ODD_VALUES:
            self.assertFalse(one == odd)
        self.assertFalse(one == other)


class Plans(unittest.TestCase):
    def test_plans_papers_reasons_rings(self):
        rng = random.Random(771)
        reasons = 0
        for _ in range(150):
            house = drawn_house(rng, 6)[0]
            before = shown(house)
            world, order = house.world(), house.order()
            web, left = plain_web_left(world), plain_people_left(world)
            kept = plain_kept(web, order)
            plan, paper = house.plan(), house.paper()
            self.assertTrue(only_tuples((plan, paper, house.next_rings())))
            self.assertEqual(served(plan), kept)
            self.assertEqual(paper[0], plan)
            self.assertIs(is_kept_paper(web, order, paper), True)
            for person in range(len(order)):
                told = house.reason(person=person)
                if person in left and person not in kept:
                    self.assertEqual(told, why_not(web, order, person))
                    self.assertIs(is_reason(web, order, person, told), True)
                    reasons += 1
                else:
                    self.assertIsNone(told)
            self.assertEqual(house.next_rings(), tuple(plain_ring(world, pair) for pair in plan))
            self.assertEqual(shown(house), before)
            for ring in house.next_rings():
                house.do(ring)
            self.assertEqual(house.world()[2], tuple(sorted(world[2] + kept)))
        self.assertGreater(reasons, 100)

    def test_no_person(self):
        house = House(TEXT)
        for odd in ODD_VALUES + [3, 60]:
            if type(odd) is not int or not 0 <= odd < 3:
                with self.assertRaises(InvalidQuestion) as caught:
                    house.reason(odd)
                self.assertEqual(caught.exception.at, 0)
        house.do(("come", 0, ()))
        self.assertIsNotNone(house.reason(3))
        self.assertEqual(house.reason(1), (((0, 1, 2),), ()))

    def test_sixty_people(self):
        rng = random.Random(772)
        registry = great_registry()
        docket = docket_with(rng, registry)
        house = House(docket_text(docket))
        for at in range(120):
            person = rng.randrange(60)
            house.do(("back" if person in house.world()[5] else "away", person) if at % 3 else ("day",))
        for _ in range(5):
            kept = kept_lot(web_left(house.world()), house.order())
            self.assertEqual(served(house.plan()), kept)
            told = [house.reason(person) for person in range(60)]
            left = plain_people_left(house.world())
            self.assertEqual([person for person in range(60) if told[person] is not None], [
                person for person in left if person not in kept])
            for ring in house.next_rings()[:4]:
                house.do(ring)
        log = house.log()
        signs = len("".join(log)) * 2 // 3
        world = read_back(registry, mended(cut_log(log, signs)))
        self.assertEqual(house.cut(signs), len(log) - len(house))
        self.assertEqual(house.world(), world)
