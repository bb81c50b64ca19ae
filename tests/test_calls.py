"""Promises [1] and [2] for each function: arguments by their names, equal answers, tuples throughout."""

import copy
import importlib
import itertools
import random
import unittest

from givesifgets.dockettexts import docket_text
from givesifgets.errors import GiveError
from tests.plain import ODD_VALUES, deep, near_values, only_tuples
from tests.test_language import INTERFACE

REGISTRY = (((0, 1), (1,)), (0, 1, 1), ((0, 1), (1, 0), (1, 2), (0, None)), ((3, 2),))
DOCKET = (REGISTRY, (2, 0, 1), ((1, 0), (0, 2, 1), (2,)))
WEB = (7, ((0, 1), (0, 2), (1, 2), (2, 3), (3, 4), (3, 5), (5, 6)))
PLAN = ((0, 1), (3, 4))
LIFE = ((0, REGISTRY, (), (), (), ()), (0, 1, 2), (), ((0, 1),))
SAMPLES = {
    "registry": REGISTRY, "friend": 3, "person": 4, "fits": [[0, 1, 0], [1]], "people": [0, 1], "barred": [[0, 0]],
    "friends": [[0, 1], (1, None)], "value": PLAN, "web": WEB, "n": 7, "names": (3, 0, 1, 2, 6, 4, 5), "lot": (0, 1, 4),
    "text": docket_text(DOCKET), "docket": DOCKET, "plan": PLAN, "turn": ("way", (2, 1, 0)), "one": PLAN,
    "other": ((0, 1), (2, 3), (5, 6)), "taken": (3,), "base": (0, 1, 2, 3, 5, 6), "order": (6, 5, 4, 3, 2, 1, 0),
    "worths": (0, 3, 3, 1, 10 ** 30, 0, 2), "place": 1, "pairs": ((0, 1), (3, 4)), "pair": (2, 3), "most": 100,
    "telling": ((0, 2),), "inside": ((0, 2),), "ward": (0, 2, 3, 4), "limits": (3, 2),
    "arcs": (4, ((0, 1), (1, 0), (1, 2), (2, 0), (2, 3), (3, 2)), ((0, 3), (2,))),
    "piece": ("chain", 1, (2, 0, 4)), "weights": (1, 1, 0, 10 ** 30),
    "pack": (("chain", 1, (2,)), ("ring", (0, 1))), "case": ((0, ("friend", 1)), (3, ("none",))),
    "tree": (("who", 2), ("prices", 1, (0, 0, 0, 0), (0, 0))), "falls": (((0, 1), (3, 5)), (2,)), "cover": (0, 2, 3, 5),
    "good": ((0, 1), (3, 4)), "wishes": ((2, 1, 0), (2, 0, 1), (1, 3, 0, 2), (2, 3)), "deal": (1, 0, 2, 3),
    "told": ((2, 1, 0), (2, 0, 1), (0, 2), (2, 3)), "calendar": (4, 5, 4), "away": ((0,), (), (1,)), "table": (0, 1, 0, 2),
    "jobs": ((2, (0, 1, 2)), (3, (0, 1, 2)), (2, (0, 2)), (4, (1, 2))), "many": 2, "days": 2,
    "world": (2, REGISTRY, (0,), (3,), ((0, 1),), ()), "deed": ("link", (1, 2)), "row": "link 1>2.", "signs": 12,
    "deeds": [("day",), ("link", (1, 2)), ("away", 2)], "log": ("link 3>0.", "day.", "te"),
    "life": LIFE, "change": ("move", 2, 0), "name": "kept", "question": (WEB, (6, 5, 4, 3, 2, 1, 0)),
    "changes": [("promise", (0, 1)), ("deed", ("come", 1, (0,))), ("all",), ("deed", ("day",))],
    "values": [("best", (WEB,), (PLAN, (3,))), ("best", (WEB,), (((0, 1), (2, 3), (5, 6)), (3,)))],
}
# what stands for an argument in one function alone
APART = {
    "has_tie": {"person": 0}, "friends_of": {"person": 0}, "barred_more": {"person": 0},
    "renamed_docket": {"names": (2, 0, 1)}, "exchanged": {"person": 5}, "plan_without": {"person": 2},
    "turned": {"plan": ((1, 2),)}, "taken_in": {"one": (0, 4), "other": (0, 1, 2)},
    "is_earlier": {"one": (0, 1), "other": (1, 2)}, "pair_turned": {"pair": (2, 5)},
    "weight_of": {"lot": (0, 1, 3)}, "sources_of": {"person": 2}, "pack_for": {"lot": (0, 3)},
    "best_lot": {"worths": (3, 0, 1, 1), "order": (2, 0, 3, 1)}, "repaired": {"plan": ((0, 1), (2, 3), (5, 6))},
    "prefers": {"person": 2, "one": 3, "other": 2}, "asking": {"person": 2, "other": 0}, "reach": {"person": 2},
    "begun": {"order": (2, 0, 1)}, "helping_ties": {"order": (0, 1, 2), "person": 2},
    **{name: {"order": (0, 1, 2, 3, 5, 6, 4)} for name in ("why_not", "is_reason", "helping_pairs")},
    "ring_deed": {"people": (1, 2)}, "logged": {"log": ("link 3>0.", "day.", "day.")},
    **{name: {"other": (7, ((0, 1), (1, 6), (2, 3), (3, 4), (3, 5)))}
       for name in ("changed_pairs", "come_and_gone", "near_plans", "are_near_plans")},
}


# the arguments that may be any value, besides those that are called so
ANY = {
    "registry_of": "fits, people, friends, barred", "read_docket": "text", "turned": "turn", "exchanged": "person",
    "is_servable": "lot", "taken_in": "one, other", "is_base": "lot", "rivals": "base, person", "repaired": "plan, falls",
    "fate": "pair", "short_list": "cover", "fault_of": "pack, tree", "do_deed": "deed", "can_do": "deed", "logged": "deed",
    "ring_deed": "people", "deed_of": "row", "read_back": "log", "why_not": "person", "is_reason": "person, value",
    "helping_pairs": "person", "helping_ties": "person", "wronged": "plan", "is_fair": "plan", "changed": "change",
    "sheet": "name, question", "wrong_sheets": "values",
}


def odd_nested():
    """Odd values, and these in tuples with one another."""
    rng = random.Random(80)
    yield from ODD_VALUES
    for size in range(1, 7):
        for _ in range(25):
            yield tuple(rng.choice(ODD_VALUES) for _ in range(size))
    yield tuple(itertools.repeat((0, 1), 500))
    yield deep(50)


class Calls(unittest.TestCase):
    def test_every_function(self):
        for stem, functions in INTERFACE.items():
            module = importlib.import_module("givesifgets." + stem)
            for name, arguments in functions.items():
                samples = {**SAMPLES, **APART.get(name, {})}
                named = {argument: samples[argument] for argument in arguments.split(", ")}
                before = copy.deepcopy(named)
                function = getattr(module, name)
                told = function(**named)
                self.assertEqual(repr(told), repr(function(*named.values())), name)
                self.assertEqual(repr(told), repr(function(**copy.deepcopy(before))), name)
                self.assertEqual(repr(named), repr(before), name)
                self.assertTrue(only_tuples(told), name)
                if name.startswith(("is_", "are_", "has_")) or name == "serves":
                    self.assertIs(type(told), bool, name)

    def ask(self, function, named, argument, value):
        """Any value as an argument: it is answered, or refused by an error of the package that has a number."""
        before = repr(value)
        try:
            told = function(**{**named, argument: value})
        except GiveError as error:
            self.assertIs(type(error.at), int)
            self.assertNotEqual(argument, "value")
            told = None
        else:
            if function.__name__.startswith(("is_", "are_", "can_")) or function.__name__ == "sheet_holds":
                self.assertIs(type(told), bool, function.__name__)
        self.assertEqual(repr(value), before)

    def test_any_value(self):
        """Whatever stands where any value may, nothing is raised but what the document tells."""
        asked = 0
        odd = list(odd_nested())
        for stem, functions in INTERFACE.items():
            module = importlib.import_module("givesifgets." + stem)
            for name, arguments in functions.items():
                samples = {**SAMPLES, **APART.get(name, {})}
                named = {argument: samples[argument] for argument in arguments.split(", ")}
                for argument in ANY.get(name, "value" if "value" in named else "").split(", "):
                    if argument:
                        asked += 1
                        for value in odd + list(itertools.islice(near_values(named[argument]), 0, 400, 3)):
                            self.ask(getattr(module, name), named, argument, value)
        self.assertGreater(asked, 70)
