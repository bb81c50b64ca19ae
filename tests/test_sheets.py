"""Promise [78]: sheets, made and looked at."""

import random
import unittest

from givesifgets.audits import is_reason, why_not
from givesifgets.barriers import best_paper, is_best_paper
from givesifgets.bases import is_most_paper, most_paper
from givesifgets.errors import InvalidQuestion, Refused
from givesifgets.gaining import is_gaining
from givesifgets.kept import kept_lot
from givesifgets.keptpapers import is_kept_paper, kept_paper
from givesifgets.lotbarriers import is_lot_paper, lot_paper
from givesifgets.sheets import sheet, sheet_holds, wrong_sheets
from givesifgets.trading import is_deal, trade
from givesifgets.webs import is_web
from givesifgets.wishprices import are_prices, deal_paper
from tests.plain import (ODD_VALUES, Sack, all_values_near, drawn_order, drawn_web, drawn_webs, lots_of, near_values,
                         only_tuples)
from tests.test_trading import all_deals, drawn_wishes, long_ring, some_deals
from tests.test_wishprices import small_wishes

LOOKERS = {"best": is_best_paper, "lot": is_lot_paper, "most": is_most_paper, "kept": is_kept_paper, "reason": is_reason,
           "prices": are_prices, "gaining": is_gaining}
MAKERS = {"best": best_paper, "lot": lot_paper, "most": most_paper, "kept": kept_paper, "reason": why_not}


def whole(value, end):
    return type(value) is int and 0 <= value < end


def is_plain_lot(n, value):
    return type(value) is tuple and all(whole(thing, n) for thing in value) and list(value) == sorted(set(value))


def is_plain_order(n, value):
    return type(value) is tuple and all(whole(thing, n) for thing in value) and sorted(value) == list(range(n))


def are_plain_wishes(value):
    if type(value) is not tuple or len(value) > 60:
        return False
    for person, row in enumerate(value):
        if type(row) is not tuple or not row or not all(whole(other, len(value)) for other in row):
            return False
        if row[-1] != person or len(row) != len(set(row)):
            return False
    return True


def is_plain_question(name, value):
    """Whether any value is a question for this kind of sheet."""
    if type(value) is not tuple or len(value) != {"best": 1, "reason": 3}.get(name, 2):
        return False
    if name in ("prices", "gaining"):
        return are_plain_wishes(value[0]) and is_deal(value[0], value[1])
    if not is_web(value[0]):
        return False
    n = value[0][0]
    if name in ("lot", "most"):
        return is_plain_lot(n, value[1])
    if name == "best":
        return True
    if not is_plain_order(n, value[1]):
        return False
    return name == "kept" or whole(value[2], n) and value[2] not in kept_lot(value[0], value[1])


def drawn_questions(seed, many):
    """(name, question) for each kind of sheet."""
    rng = random.Random(seed)
    for web in drawn_webs(seed + 1, many, 0, 7):
        order = drawn_order(rng, web[0])
        yield "best", (web,)
        yield "kept", (web, order)
        for name in ("lot", "most"):
            yield name, (web, rng.choice(lots_of(web[0])))
        left = [person for person in order if person not in kept_lot(web, order)]
        if left:
            yield "reason", (web, order, rng.choice(left))
        wishes = drawn_wishes(rng, rng.randint(0, 6))
        deals = some_deals(rng, wishes)
        yield "prices", (wishes, trade(wishes))
        others = [deal for deal in deals if deal != trade(wishes)]
        if others:
            yield "gaining", (wishes, rng.choice(others))


class Sheets(unittest.TestCase):
    def test_each_kind(self):
        names = set()
        for name, question in drawn_questions(781, 60):
            before = repr(question)
            told = sheet(name=name, question=question)
            self.assertTrue(type(told) is tuple and len(told) == 3 and only_tuples(told))
            self.assertEqual(repr(told[:2]), repr((name, question)))
            self.assertIs(LOOKERS[name](*question, told[2]), True)
            self.assertIs(sheet_holds(value=told), True)
            self.assertEqual(repr(question), before)
            if name in MAKERS:
                self.assertEqual(told[2], MAKERS[name](*question))
            else:
                paper = deal_paper(*question)
                self.assertEqual((name,) + ((told[2],) if name == "prices" else told[2]), paper)
            names.add(name)
        self.assertEqual(names, set(LOOKERS))

    def test_held_against_its_looker(self):
        rng = random.Random(783)
        seen = {True: 0, False: 0}
        for name, question in drawn_questions(784, 30):
            value = sheet(name, question)[2]
            for other in [value] + rng.sample((list(near_values(value)) + [None]) * 25, 25) + rng.sample(ODD_VALUES, 10):
                wanted = LOOKERS[name](*question, other)
                self.assertIs(sheet_holds((name, question, other)), wanted)
                seen[wanted] += 1
            for other in set(LOOKERS) - {name}:
                wanted = is_plain_question(other, question) and LOOKERS[other](*question, value)
                self.assertIs(sheet_holds((other, question, value)), wanted)
        self.assertGreater(min(seen.values()), 100)

    def test_questions_near(self):
        rng = random.Random(785)
        seen = {name: [0, 0] for name in LOOKERS}
        for name, question in drawn_questions(786, 25):
            value = sheet(name, question)[2]
            near = [question, question + (0,), question[:-1], list(question), question[0], ()]
            near += rng.sample(list(near_values(question)) * 3, 30) + rng.sample(ODD_VALUES, 15)
            near += [question[:1] + (odd,) + question[2:] for odd in rng.sample(ODD_VALUES, 15)]
            near += [question[:2] + (odd,) for odd in rng.sample(ODD_VALUES, 8)]
            near += [(odd,) + question[1:] for odd in rng.sample(ODD_VALUES, 8)]
            for other in near:
                wanted = is_plain_question(name, other)
                seen[name][wanted] += 1
                if not wanted:
                    with self.assertRaises(Refused) as caught:
                        sheet(name, other)
                    self.assertEqual(caught.exception.at, 1, (name, other))
                    self.assertIs(sheet_holds((name, other, value)), False)
                    continue
                try:
                    told = sheet(name, other)
                    self.assertIs(sheet_holds(told), True)
                except Refused as error:
                    self.assertEqual((error.at, name in ("prices", "gaining")), (2, True))
        for name, (no, yes) in seen.items():
            self.assertGreater(no, 200, name)
            self.assertGreater(yes, 10, name)

    def test_people_who_are_kept(self):
        web, order = (3, ((0, 1),)), (0, 1, 2)
        self.assertEqual(sheet("reason", (web, order, 2)), ("reason", (web, order, 2), (((2,),), ())))
        for person in (0, 1, 3, -1, True, None, "2", 2.0, (2,)):
            with self.assertRaises(Refused) as caught:
                sheet("reason", (web, order, person))
            self.assertEqual(caught.exception.at, 1)
            self.assertIs(sheet_holds(("reason", (web, order, person), (((2,),), ()))), False)

    def test_just_one_of_prices_and_gaining(self):
        """For each wishes and deal one of the two is refused, as none of it holds."""
        for wishes in small_wishes(787, 20):
            for deal in all_deals(wishes):
                names = []
                for name in ("prices", "gaining"):
                    try:
                        self.assertIs(sheet_holds(sheet(name, (wishes, deal))), True)
                        names.append(name)
                    except Refused as error:
                        self.assertEqual(error.at, 2)
                self.assertEqual(names, ["prices" if deal == trade(wishes) else "gaining"])

    def test_names_that_are_none(self):
        web = (2, ((0, 1),))
        for name in ODD_VALUES + ["Best", "best ", "", "served", "prices\n", ("best",), ["best"], {"best"}, {"best": 1}, b"best",
                                  Sack(), ("best", (web,))]:
            with self.assertRaises(Refused) as caught:
                sheet(name, (web,))
            self.assertEqual(caught.exception.at, 0)
            with self.assertRaises(Refused) as caught:
                sheet(name, None)
            self.assertEqual(caught.exception.at, 0)
            self.assertIs(sheet_holds((name, (web,), (((0, 1),), ()))), False)

    def test_any_value(self):
        told = sheet("kept", ((3, ((0, 1),)), (2, 1, 0)))
        for value in all_values_near([told]):
            wanted = type(value) is tuple and len(value) == 3 and type(value[0]) is str and value[0] in LOOKERS
            wanted = wanted and is_plain_question(value[0], value[1]) and LOOKERS[value[0]](*value[1], value[2])
            self.assertIs(sheet_holds(value), wanted, value)
        for odd in ODD_VALUES:
            for name in LOOKERS:
                self.assertIs(sheet_holds((name, odd, odd)), False)
                self.assertIs(sheet_holds((name, (odd,), odd)), False)
                # nobody's wishes, and nobody's deal, have no prices
                self.assertIs(sheet_holds((name, (odd, odd), odd)), name == "prices" and type(odd) is tuple and odd == ())

    def test_wrong_sheets(self):
        rng = random.Random(788)
        sheets = [sheet(name, question) for name, question in drawn_questions(789, 10)]
        for _ in range(30):
            values, wanted = [], []
            for at in range(rng.randint(0, 9)):
                if rng.random() < 0.5:
                    values.append(rng.choice(sheets))
                else:
                    values.append(rng.choice([rng.choice(ODD_VALUES), list(rng.choice(sheets)), rng.choice(sheets)[:2]]))
                    wanted.append(at)
            self.assertEqual(wrong_sheets(values=values), tuple(wanted))
            self.assertEqual(wrong_sheets(tuple(values)), tuple(wanted))
        self.assertEqual((wrong_sheets([]), wrong_sheets(())), ((), ()))
        for odd in ODD_VALUES:
            if not isinstance(odd, (list, tuple)):
                with self.assertRaises(InvalidQuestion) as caught:
                    wrong_sheets(odd)
                self.assertEqual(caught.exception.at, 0)

    def test_sixty_people(self):
        rng = random.Random(790)
        web, order = drawn_web(rng, 60, 0.03), drawn_order(rng, 60)
        left = [person for person in order if person not in kept_lot(web, order)]
        self.assertTrue(left)
        for name, question in (("best", (web,)), ("lot", (web, tuple(range(30)))), ("most", (web, tuple(range(60)))),
                               ("kept", (web, order)), ("reason", (web, order, left[-1])),
                               ("prices", (long_ring(60), trade(long_ring(60)))), ("gaining", (long_ring(60), tuple(range(60))))):
            self.assertIs(sheet_holds(sheet(name, question)), True)
        for name, question in (("best", ((61, ()),)), ("prices", (long_ring(61), trade(long_ring(61))))):
            with self.assertRaises(Refused) as caught:
                sheet(name, question)
            self.assertEqual(caught.exception.at, 1)
