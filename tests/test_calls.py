"""Promises [1] and [2] for each function: arguments by their names, equal answers, tuples throughout."""

import copy
import importlib
import unittest

from givesifgets.dockettexts import docket_text
from tests.plain import only_tuples
from tests.test_language import INTERFACE

REGISTRY = (((0, 1), (1,)), (0, 1, 1), ((0, 1), (1, 0), (1, 2), (0, None)), ((3, 2),))
DOCKET = (REGISTRY, (2, 0, 1), ((1, 0), (0, 2, 1), (2,)))
WEB = (7, ((0, 1), (0, 2), (1, 2), (2, 3), (3, 4), (3, 5), (5, 6)))
PLAN = ((0, 1), (3, 4))
SAMPLES = {
    "registry": REGISTRY, "friend": 3, "person": 4, "fits": [[0, 1, 0], [1]], "people": [0, 1], "barred": [[0, 0]],
    "friends": [[0, 1], (1, None)], "value": PLAN, "web": WEB, "n": 7, "names": (3, 0, 1, 2, 6, 4, 5), "lot": (0, 1, 4),
    "text": docket_text(DOCKET), "docket": DOCKET, "plan": PLAN, "turn": ("way", (2, 1, 0)), "one": PLAN,
    "other": ((0, 1), (2, 3), (5, 6)), "taken": (3,), "base": (0, 1, 2, 3, 5, 6), "order": (6, 5, 4, 3, 2, 1, 0),
}
# what stands for an argument in one function alone
APART = {
    "has_tie": {"person": 0}, "friends_of": {"person": 0}, "barred_more": {"person": 0},
    "renamed_docket": {"names": (2, 0, 1)}, "exchanged": {"person": 5}, "plan_without": {"person": 2},
    "turned": {"plan": ((1, 2),)}, "taken_in": {"one": (0, 4), "other": (0, 1, 2)},
    "is_earlier": {"one": (0, 1), "other": (1, 2)},
}


class Calls(unittest.TestCase):
    def test_every_function(self):
        for stem, functions in INTERFACE.items():
            module = importlib.import_module("givesifgets." + stem)
            for name, arguments in functions.items():
                samples = {**SAMPLES, **APART.get(name, {})}
                named = {argument: samples[argument] for argument in arguments.split(", ")}
                before = copy.deepcopy(named)
                function = getattr(module, name)
                told = function(**named)
                self.assertEqual(repr(told), repr(function(*named.values())), name)
                self.assertEqual(repr(told), repr(function(**copy.deepcopy(before))), name)
                self.assertEqual(repr(named), repr(before), name)
                self.assertTrue(only_tuples(told), name)
                if name.startswith(("is_", "are_", "has_")) or name == "serves":
                    self.assertIs(type(told), bool, name)
