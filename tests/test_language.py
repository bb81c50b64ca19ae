"""The rules of the Python subset, as far as a script sees them, and the interface."""

import ast
import importlib
import inspect
import os
import unittest

from tests.language import files_of, wrong_places

FOLDER = os.path.join(os.path.dirname(os.path.dirname(os.path.abspath(__file__))), "givesifgets")

INTERFACE = {
    "errors": {},
    "registry": {"registry_of": "fits, people, friends, barred", "is_registry": "value",
                 "has_tie": "registry, friend, person", "ties_of": "registry", "friends_of": "registry, person",
                 "free_friends": "registry", "barred_more": "registry, friend, person"},
    "webs": {"is_web": "value", "pair_web": "registry", "neighbours": "web, person", "arcs_of": "registry",
             "are_arcs": "value", "is_lot": "n, value", "is_order": "n, value", "renamed_web": "web, names",
             "renamed_lot": "lot, names", "without": "web, lot"},
    "tokens": {"tokens_of": "text", "token_places": "text"},
    "dockets": {"are_wishes": "n, value", "is_docket": "value", "renamed_docket": "docket, names"},
    "dockettexts": {"docket_tokens": "docket", "docket_text": "docket"},
    "reading": {"read_docket": "text", "may_follow": "text", "completed": "text"},
    "plans": {"is_plan": "web, value", "served": "plan", "unserved": "web, plan", "partner": "plan, person",
              "serves": "plan, lot"},
    "turns": {"is_turn": "web, plan, value", "gain": "plan, turn", "turned": "web, plan, turn",
              "is_growing": "web, plan, value"},
    "strands": {"strands": "one, other", "strand_at": "one, other, person", "ends": "one, other",
                "growing_ways": "one, other", "exchanged": "one, other, person"},
    "search": {"is_even_way": "web, plan, value", "even_way": "web, plan, person", "grown_plan": "web, plan",
               "largest_plan": "web"},
    "barriers": {"odd_parts": "web, lot", "spare_number": "web, lot", "best_paper": "web",
                 "is_best_paper": "web, value"},
    "threeparts": {"three_parts": "web", "plan_without": "web, person", "paired_rest": "web, person"},
    "servable": {"serving_plan": "web, lot", "is_servable": "web, lot", "taken_in": "web, one, other"},
    "lotbarriers": {"closed_parts": "web, lot, taken", "lot_paper": "web, lot", "is_lot_paper": "web, lot, value"},
    "bases": {"most_of": "web, lot", "most_paper": "web, lot", "is_most_paper": "web, lot, value",
              "is_base": "web, lot", "rivals": "web, base, person"},
    "kept": {"kept_lot": "web, order", "kept_plan": "web, order", "places": "order, lot",
             "is_earlier": "order, one, other"},
    "keptpapers": {"kept_paper": "web, order", "is_kept_paper": "web, order, value", "beginnings": "web, order"},
    "worths": {"worth_of": "lot, worths", "falls_along": "order, worths", "order_of_worths": "worths",
               "dearest_lot": "web, worths"},
    "moves": {"moved_ahead": "order, person, place", "after_move": "web, order, person, place"},
    "hiding": {"pairs_at": "web, lot", "less": "web, pairs", "plan_beside": "web, order, pairs"},
    "news": {"changed_pairs": "web, other", "come_and_gone": "web, other, order", "near_plans": "web, other, order",
             "are_near_plans": "web, other, order, value"},
    "changes": {"pair_turned": "web, pair", "pair_news": "web, order, pair", "person_gone": "web, order, person"},
    "together": {"tellings": "web, lot, most", "kept_telling": "web, order, lot, telling",
                 "gain_together": "web, order, lot, most"},
    "wards": {"apart": "web, order, pairs, inside", "best_apart": "web, order, ward, most"},
    "pieces": {"is_piece": "arcs, limits, value", "pieces_of": "arcs, limits", "source_of": "piece, person",
               "sources_of": "arcs, person"},
    "packs": {"is_pack": "arcs, limits, value", "served_by": "pack", "weights_by": "worths, order",
              "weight_of": "weights, lot"},
    "shares": {"shares_of": "arcs, limits, weights", "are_shares": "arcs, limits, weights, value"},
    "cases": {"is_case": "arcs, value", "fits_case": "case, piece", "keeps": "pack, case"},
    "trees": {"tree_of": "arcs, limits, weights", "fault_of": "arcs, limits, weights, pack, tree"},
    "bestpacks": {"best_lot": "arcs, limits, worths, order", "pack_for": "arcs, limits, lot",
                  "best_keeping": "arcs, limits, weights, case"},
    "falls": {"are_falls": "web, value", "left_web": "web, falls", "left_plan": "plan, falls",
              "repaired": "web, plan, falls"},
    "fates": {"fate": "web, pair", "fate_paper": "web, pair", "is_fate_paper": "web, pair, value",
              "needed_pairs": "web"},
    "shortlists": {"is_cover": "web, value", "first_cover": "web", "short_list": "web, order, cover, most"},
    "trials": {"missing": "web, good", "fewest_tests": "web, good, most", "trial_tree": "web, good, most",
               "is_trial_tree": "web, good, most, value"},
    "trading": {"is_deal": "wishes, value", "prefers": "wishes, person, one, other", "deal_rings": "deal",
                "rounds": "wishes", "trade": "wishes"},
    "gaining": {"is_gaining": "wishes, deal, value", "gaining": "wishes, deal"},
    "wishprices": {"are_prices": "wishes, deal, value", "least_prices": "wishes", "deal_paper": "wishes, deal"},
    "lies": {"asking": "wishes, person, other", "reach": "wishes, person", "loser": "wishes, told"},
    "calendars": {"is_calendar": "value", "are_jobs": "calendar, value", "jobs_of": "calendar, pack, away",
                  "is_timetable": "calendar, jobs, value", "left_over": "calendar, jobs, table, many"},
    "fronts": {"are_fronts": "calendar, jobs, value", "fronts": "calendar, jobs, days"},
    "timetables": {"timetable_within": "calendar, jobs, days", "is_delay_paper": "calendar, jobs, days, value",
                   "fewest_days": "calendar, jobs", "first_timetable": "calendar, jobs",
                   "first_papers": "calendar, jobs", "is_first": "calendar, jobs, table, value"},
    "worlds": {"start_world": "registry", "is_world": "value", "people_left": "world", "web_left": "world",
               "givers_left": "world", "links_left": "world"},
    "deeds": {"do_deed": "world, deed", "can_do": "world, deed", "do_all": "world, deeds", "ring_deed": "world, people"},
    "logrows": {"row_of": "deed", "deed_of": "row"},
    "logs": {"logged": "world, log, deed", "log_of": "deeds", "cut_log": "log, signs", "mended": "log",
             "read_back": "registry, log"},
    "audits": {"why_not": "web, order, person", "is_reason": "web, order, person, value"},
    "helping": {"helping_pairs": "web, order, person", "helping_ties": "registry, order, person"},
    "fairness": {"wronged": "web, order, plan", "is_fair": "web, order, plan"},
    "living": {"begun": "world, order", "is_life": "value", "open_web": "life", "served_now": "life"},
    "livingchanges": {"is_change": "life, value", "changed": "life, change", "ways_of": "life, change",
                      "touched": "life, change"},
    "promises": {"without_promises": "life", "price": "life"},
    "lives": {"lived": "life, changes", "diary": "life, changes", "seen_web": "life, changes",
              "there_web": "life, changes", "done_lot": "life, changes"},
    "houses": {},
    "sheets": {"sheet_holds": "value", "sheet": "name, question", "wrong_sheets": "values"},
    "desk": {},
}

# the arguments of a class and of its methods, "self" left out
CLASSES = {
    "houses": {"House": {"__init__": "text", "__len__": "", "registry": "", "order": "", "wishes": "", "world": "", "log": "",
                         "do": "deed", "cut": "signs", "within": "work", "plan": "", "paper": "", "reason": "person",
                         "next_rings": ""}},
    "desk": {"Desk": {"__init__": "", "load": "text", "say": "command"}},
}

GOOD = '"""A file."""\n\n\n'

# a file that breaks a rule, and the rule
BROKEN = [
    ("L2", "import os\n"), ("L2", "from os import path\n"), ("L2", "from . import other\n"),
    ("L2", "from givesifgets.nowhere import thing\n"), ("L16", "from givesifgets.other import nothing\n"),
    ("L3", "X = [k for k in (1, 2)]\n"), ("L3", "print(1)\n"), ("L3", "X, Y = 1, 2\n"), ("L3", "X = len('a')\n"),
    ("L4", "def f(x=[]):\n    return x\n"), ("L4", "def f(x: int):\n    return x\n"),
    ("L4", "def f():\n    def g():\n        return 1\n    return g()\n"),
    ("L5", "class A:\n    def __hash__(self):\n        return 1\n"), ("L5", "class A:\n    x = []\n"),
    ("L6", "def f(x):\n    global y\n    return x\n"), ("L6", "def f(x):\n    with x:\n        return 1\n"),
    ("L6", "def f(x):\n    try:\n        return x\n    except:\n        return 1\n"),
    ("L7", "def f(x):\n    return x / 2\n"), ("L7", "def f():\n    return 0.5\n"),
    ("L7", "def f(x):\n    return any(y for y in x)\n"), ("L7", "def f(x):\n    return [[y for y in z] for y in x for z in y]\n"),
    ("L7", "def f(x):\n    y = [[y for y in z] for z in x]\n    return y\n"),
    ("L8", "def f(x):\n    return type(x)\n"), ("L8", "def f(x):\n    return hash(x)\n"),
    ("L8", "def f(x):\n    return x.__class__\n"), ("L8", "def f(x):\n    return map(len, x)\n"),
    ("L10", "X = '%s'\n" % ("a" * 120)), ("L10", "def f(x):\n" + "    x = x + 1\n" * 40), ("L10", "# a\n" * 400),
    ("L12", "def f(x):\n    for _ in x:\n        return _\n"), ("L14", "X = '\u00e9'\n"), ("L14", "X = '\t'\n"),
    ("L15", "X = 1\nX = 2\n"), ("L15", "def f(max):\n    return max\n"), ("L15", "def f(x):\n    next = x\n    return next\n"),
    ("L15", "from givesifgets.other import thing\n\n\ndef f(thing):\n    return thing\n"),
    ("L15", "X = []\n\n\ndef f():\n    X.append(1)\n"), ("L17", "def f(law):\n    return law\n"),
    ("L17", "X = 'enum'\n"), ("L18", "class A:\n    def __init__(self):\n        self.f = 1\n\n    def f(self):\n        return 1\n"),
    ("L19", "def f(x):\n    raise x\n"), ("L20", "def f(x):\n    return x is f\n"),
    ("L22", "def f(x):\n    return sum([x], start=len)\n"), ("L22", "def f(x):\n    return int(x, base=2)\n"),
    ("L23", "def f(x):\n    y = enumerate(x)\n    return list(y)\n"), ("L23", "def f(x):\n    return x.items()\n"),
    ("L23", "def f(x):\n    for y in x:\n        x.append(y)\n"), ("L23", "def f(x):\n    for k, y in enumerate(x):\n        x[k] = y\n"),
    ("L23", "def f(x):\n    yield x\n"), ("L24", "def f(x):\n    return set(x)\n"),
    ("L24", "def f(x):\n    for y in {1, x}:\n        return y\n"), ("L24", "def f(x):\n    y = set(x)\n    return y\n"),
    ("L25", "def f(x):\n    return x.isascii_like()\n"), ("L25", "def f(x):\n    return x.append\n"),
    ("L25", "def f(x):\n    return x.split(sep='a')\n"), ("L26", "class A:\n    def __init__(self):\n        self.items = 1\n"),
    ("L26", "class A:\n    def isascii(self):\n        return 1\n"), ("L27", "X = '%'\n"), ("L27", "X = '\\r'\n"),
    ("L27", "def f(x):\n    return x ** x\n"), ("L28", "class A:\n    def __init__(self):\n        return None\n"),
]


class Language(unittest.TestCase):
    def test_package(self):
        self.assertEqual(wrong_places(files_of(FOLDER)), [])

    def test_what_the_look_sees(self):
        other = {"other.py": GOOD + "def thing():\n    return 1\n"}
        self.assertEqual(wrong_places({**other, "file.py": GOOD + "def f(x):\n    return x\n"}), [])
        for rule, text in BROKEN:
            rules = {wrong[0] for wrong in wrong_places({**other, "file.py": GOOD + text})}
            self.assertIn(rule, rules, text)
        circle = {"a.py": GOOD + "from givesifgets.b import g\n\n\ndef f():\n    return g()\n",
                  "b.py": GOOD + "from givesifgets.a import f\n\n\ndef g():\n    return f()\n"}
        self.assertIn("L16", {wrong[0] for wrong in wrong_places(circle)})
        for name in ("len.py", "test_a.py", "Upper.py", "open.py"):
            self.assertIn("L14", {wrong[0] for wrong in wrong_places({name: GOOD})})


class Interface(unittest.TestCase):
    def test_names_and_arguments(self):
        for stem, functions in INTERFACE.items():
            module = importlib.import_module("givesifgets." + stem)
            for name, arguments in functions.items():
                function = getattr(module, name)
                self.assertTrue(inspect.isfunction(function), name)
                self.assertEqual(function.__module__, "givesifgets." + stem)
                self.assertEqual(", ".join(inspect.signature(function).parameters), arguments, name)
                for parameter in inspect.signature(function).parameters.values():
                    self.assertEqual(parameter.kind, inspect.Parameter.POSITIONAL_OR_KEYWORD)

    def test_defined_where_it_is_listed(self):
        for stem, functions in INTERFACE.items():
            with open(os.path.join(FOLDER, stem + ".py"), encoding="utf-8") as source:
                tree = ast.parse(source.read())
            defined = {node.name for node in tree.body if isinstance(node, ast.FunctionDef)}
            self.assertLessEqual(set(functions), defined)
            classes = {node.name: node for node in tree.body if isinstance(node, ast.ClassDef)}
            for name, methods in CLASSES.get(stem, {}).items():
                own = {node.name for node in classes[name].body if isinstance(node, ast.FunctionDef)}
                self.assertLessEqual(set(methods), own)

    def test_classes(self):
        for stem, classes in CLASSES.items():
            module = importlib.import_module("givesifgets." + stem)
            for name, methods in classes.items():
                self.assertEqual(getattr(module, name).__module__, "givesifgets." + stem)
                for method, arguments in methods.items():
                    names = list(inspect.signature(getattr(getattr(module, name), method)).parameters)[1:]
                    self.assertEqual(", ".join(names), arguments, method)
