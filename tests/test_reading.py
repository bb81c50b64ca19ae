"""Promise [13]: reading."""

import itertools
import random
import unittest

from givesifgets.dockets import is_docket
from givesifgets.dockettexts import docket_text, docket_tokens
from givesifgets.errors import InvalidText
from givesifgets.reading import completed, may_follow, read_docket
from givesifgets.registry import registry_of
from givesifgets.webs import arcs_of
from tests.plain import ODD_VALUES, only_tuples
from tests.test_dockets import EMPTY, dockets, drawn_docket

WORDS = ("kind", "person", "friend", "barred", "order", "wishes", "for", "free", "to", ":", ";")
VOCABULARY = WORDS + tuple(map(str, range(13))) + ("00", "01", "59", "60", "119", "120", "-", "x", "Kind", "#", "9" * 5000)


def subsets(things):
    things = list(things)
    return [row for size in range(len(things) + 1) for row in itertools.combinations(things, size)]


def small_dockets():
    """All dockets with few kinds, people and friends, tried plainly."""
    for kinds, most_people, most_friends in ((1, 2, 1), (1, 1, 2), (2, 1, 1), (1, 3, 0), (3, 0, 0)):
        for fits in itertools.product(subsets(range(kinds)), repeat=kinds):
            for n in range(most_people + 1):
                for people in itertools.product(range(kinds), repeat=n):
                    yield from small_ones(fits, people, most_friends)


def small_ones(fits, people, most_friends):
    n = len(people)
    owners = [None] + list(range(n))
    for many in range(most_friends + 1):
        for friends in itertools.product(itertools.product(range(len(fits)), owners), repeat=many):
            for barred in subsets(itertools.product(range(many), range(n))):
                registry = (fits, people, friends, barred)
                arcs = arcs_of(registry)[1]
                rows = []
                for person in range(n):
                    wanted = [u for u, v in arcs if v == person]
                    rows.append([row + (person,) for lot in subsets(wanted) for row in itertools.permutations(lot)])
                for order in itertools.permutations(range(n)):
                    for wishes in itertools.product(*rows):
                        yield (registry, order, wishes)


def spaced(rng, tokens):
    """A text with these tokens, and spaces, newlines and remarks as they may be."""
    text = rng.choice(("", " ", "\n", "# a remark; kind 0\n"))
    for at, token in enumerate(tokens):
        text += token
        words = at + 1 < len(tokens) and token[-1].isalnum() and tokens[at + 1][0].isalnum()
        gaps = [" ", "\n", "  \n ", "#\n", "# kind 7 : ;\n", " #x#y\n\n"] + ([] if words else [""])
        text += rng.choice(gaps)
    return text + rng.choice(("", "#", "# end", "\n\n"))


class Whole(unittest.TestCase):
    def test_read_back(self):
        rng = random.Random(11)
        for docket in dockets(300):
            for text in (docket_text(docket), spaced(rng, docket_tokens(docket)), " ".join(docket_tokens(docket))):
                told = read_docket(text=text)
                self.assertEqual(told, docket)
                self.assertTrue(only_tuples(told))
                self.assertEqual(may_follow(text), ())
                self.assertEqual(completed(text), docket)

    def test_sixty_people(self):
        rng = random.Random(12)
        every = [(f, p) for f in range(120) for p in range(60)]
        whole = registry_of([list(range(12))] * 12, [11] * 60, [(f % 12, f % 60) for f in range(120)], [])
        barred = registry_of([[0]], [0] * 60, [(0, f % 60) for f in range(120)], every)
        wide = tuple(tuple(q for q in range(60) if q != p) + (p,) for p in range(60))
        alone = tuple((p,) for p in range(60))
        for docket in ((whole, tuple(range(60))[::-1], wide), (barred, tuple(range(60)), alone),
                       drawn_docket(rng, 12, 60, 120, 3000)):
            self.assertTrue(is_docket(docket))
            text = docket_text(docket)
            self.assertEqual(read_docket(text), docket)
            tokens = docket_tokens(docket)
            half = " ".join(tokens[:len(tokens) // 2])
            told = completed(half)
            self.assertTrue(is_docket(told))
            self.assertEqual(docket_tokens(told)[:len(tokens) // 2], tokens[:len(tokens) // 2])

    def test_no_string(self):
        for value in ODD_VALUES:
            if not isinstance(value, str):
                with self.assertRaises(InvalidText) as caught:
                    read_docket(value)
                self.assertEqual(caught.exception.at, 0)


class Beginnings(unittest.TestCase):
    def first_wrong(self, tokens):
        with self.assertRaises(InvalidText) as caught:
            read_docket(" ".join(tokens))
        return caught.exception.at

    def check_beginning(self, tokens):
        """The tokens are told to begin some docket: look at the one that is told."""
        docket = completed(" ".join(tokens))
        self.assertTrue(is_docket(docket), tokens)
        self.assertEqual(docket_tokens(docket)[:len(tokens)], tuple(tokens))
        return docket

    def test_all_small_dockets(self):
        """May_follow tells at least what small dockets go on with, and nothing that no docket does."""
        after = {}
        for docket in small_dockets():
            tokens = docket_tokens(docket)
            for size in range(len(tokens)):
                after.setdefault(tokens[:size], set()).add(tokens[size])
            after.setdefault(tokens, set())
        self.assertGreater(len(after), 5000)
        rng = random.Random(13)
        for tokens, small in after.items():
            text = " ".join(tokens)
            told = may_follow(text=text)
            self.assertIs(type(told), tuple)
            self.assertEqual(list(told), sorted(set(told)))
            self.assertLessEqual(small, set(told), text)
            self.assertEqual(told == (), small == set(), text)
            for token in set(told) - small:
                # no small docket goes on so: look at the greater one that does
                if rng.random() < 0.2:
                    self.check_beginning(tokens + (token,))
            if small:
                self.assertEqual(self.first_wrong(tokens), len(tokens))
                self.check_beginning(tokens)
            for token in rng.sample(VOCABULARY, 3):
                if token not in told and token != "#":
                    self.assertEqual(self.first_wrong(tokens + (token,)), len(tokens))
                    self.assertEqual(may_follow(text + " " + token), ())
                    self.assertIsNone(completed(text=text + " " + token))

    def test_changed_tokens(self):
        rng = random.Random(14)
        small = {}
        for docket in small_dockets():
            tokens = docket_tokens(docket)
            for size in range(len(tokens) + 1):
                small[tokens[:size]] = True
        for docket in itertools.chain(dockets(200, seed=15), (drawn_docket(rng, 2, 2, 2) for _ in range(200))):
            tokens = docket_tokens(docket)
            for changed in self.changes(rng, tokens):
                self.look_at(docket, tokens, changed, small)

    def changes(self, rng, tokens):
        for _ in range(4):
            at = rng.randrange(len(tokens))
            yield tokens[:at] + tokens[at + 1:]
            yield tokens[:at] + (rng.choice(tokens),) + tokens[at:]
            yield tokens[:at] + (rng.choice(VOCABULARY[:-2]),) + tokens[at + 1:]
            yield tokens[:at]
            if at:
                yield tokens[:at - 1] + (tokens[at], tokens[at - 1]) + tokens[at + 1:]
            yield tokens + (rng.choice(tokens),)

    def look_at(self, docket, tokens, changed, small):
        changed = tuple(token for token in changed if token != "#")
        text = " ".join(changed)
        if changed == tokens:
            self.assertEqual(read_docket(text), docket)
            return
        try:
            told = read_docket(text)
            self.assertTrue(is_docket(told))
            self.assertEqual(docket_tokens(told), changed)
            return
        except InvalidText as error:
            at = error.at
        self.check_beginning(changed[:at])
        follow = may_follow(" ".join(changed[:at]))
        if at == len(changed):
            self.assertNotEqual(follow, ())
            self.assertEqual(may_follow(text), follow)
        else:
            self.assertNotIn(changed[at], follow)
            self.assertEqual(may_follow(text), ())
            self.assertIsNone(completed(text))
            self.assertNotIn(changed[:at + 1], small)

    def test_whole_exactly_if_nothing_follows(self):
        for docket in dockets(60, seed=16):
            tokens = docket_tokens(docket)
            for size in range(len(tokens)):
                self.assertNotEqual(may_follow(" ".join(tokens[:size])), ())
            self.assertEqual(may_follow(" ".join(tokens)), ())


def numbers(first, end):
    return sorted(str(number) for number in range(first, end))


class ByHand(unittest.TestCase):
    def follows(self, text, *tokens):
        self.assertEqual(may_follow(text), tuple(sorted(tokens)), text)

    def test_kinds(self):
        self.follows("", "kind")
        self.follows("kind", "0")
        self.follows("kind 0", ":")
        self.follows("kind 0 :", ";", *numbers(0, 12))
        self.follows("kind 0 : 3 10", ";", "11")
        self.follows("kind 0 : 11", ";")
        self.follows("kind 0 : ;", "kind", "person", "friend", "order")
        self.follows("kind 0 : 0 ; kind", "1")
        self.follows("kind 0 : 0 11 ;", "kind")
        self.follows("kind 0 : 2 ; kind 1 : 1 ;", "kind")
        self.follows("kind 0 : 2 ; kind 1 : 1 ; kind 2 : ;", "kind", "person", "friend", "order")
        self.follows("kind 0 : 1 ; kind 1 : 2 ;", "kind")
        eleven = " ".join("kind %d : ;" % kind for kind in range(11))
        self.follows(eleven, "kind", "person", "friend", "order")
        self.follows(eleven + " kind 11 : 11 ;", "person", "friend", "order")
        self.follows(eleven + " kind 12")
        for text in ("kind 0 : 12", "kind 0 : 1 1", "kind 0 : 2 1", "kind 0 : 00", "kind 0 : 01", "kind 1", "person",
                     "order", ";", "kind 0 : 1 ; person", "kind 0 ;", "kind : 0", "Kind", "kind 0 : -"):
            self.follows(text)

    def test_people(self):
        self.follows("kind 0 : ; person 0 :", "0")
        self.follows("kind 0 : ; kind 1 : ; person 0 :", "0", "1")
        self.follows("kind 0 : ; person 0 : 0", ";")
        self.follows("kind 0 : ; person 0 : 0 ;", "person", "friend", "order")
        self.follows("kind 0 : ; person 0 : 0 ; person", "1")
        many = "kind 0 : ; " + " ".join("person %d : 0 ;" % person for person in range(59))
        self.follows(many, "person", "friend", "order")
        self.follows(many + " person 59 : 0 ;", "friend", "order")

    def test_friends(self):
        self.follows("kind 0 : ; friend 0 : 0", "free")
        self.follows("kind 0 : ; friend 0 : 0 free", ";")
        self.follows("kind 0 : ; friend 0 : 0 free ;", "friend", "order")
        one = "kind 0 : ; person 0 : 0 ; person 1 : 0 ; friend 0 : 0"
        self.follows(one, "for", "free")
        self.follows(one + " for", "0", "1")
        self.follows(one + " for 1", ";")
        self.follows(one + " for 1 ;", "friend", "barred", "order")
        many = "kind 0 : ; " + " ".join("friend %d : 0 free ;" % friend for friend in range(119))
        self.follows(many, "friend", "order")
        self.follows(many + " friend 119 : 0 free ;", "order")

    def test_barred(self):
        two = "kind 0 : ; person 0 : 0 ; person 1 : 0 ; friend 0 : 0 free ; friend 1 : 0 free ; "
        self.follows(two, "friend", "barred", "order")
        self.follows(two + "barred", "0", "1")
        self.follows(two + "barred 0", "to")
        self.follows(two + "barred 0 to", "0", "1")
        self.follows(two + "barred 0 to 0", ";")
        self.follows(two + "barred 0 to 0 ;", "barred", "order")
        self.follows(two + "barred 0 to 0 ; barred", "0", "1")
        self.follows(two + "barred 0 to 0 ; barred 0 to", "1")
        self.follows(two + "barred 0 to 0 ; barred 1 to", "0", "1")
        self.follows(two + "barred 0 to 1 ; barred", "1")
        self.follows(two + "barred 1 to 0 ; barred 1 to", "1")
        self.follows(two + "barred 1 to 1 ;", "order")

    def test_orders(self):
        three = "kind 0 : ; " + " ".join("person %d : 0 ;" % person for person in range(3))
        self.follows(three + " order", ":")
        self.follows(three + " order :", "0", "1", "2")
        self.follows(three + " order : 1", "0", "2")
        self.follows(three + " order : 1 0", "2")
        self.follows(three + " order : 1 0 2", ";")
        self.follows(three + " order : 1 0 2 ;", "wishes")
        self.follows("kind 0 : ; order :", ";")
        self.follows("kind 0 : ; order : ;")

    def test_wishes(self):
        ring = ("kind 0 : 0 ; person 0 : 0 ; person 1 : 0 ; person 2 : 0 ; friend 0 : 0 for 0 ; friend 1 : 0 for 1 ; "
                "friend 2 : 0 free ; barred 1 to 2 ; order : 2 1 0 ; ")
        self.follows(ring + "wishes", "0")
        self.follows(ring + "wishes 0", ":")
        self.follows(ring + "wishes 0 :", "0", "1")
        self.follows(ring + "wishes 0 : 1", "0")
        self.follows(ring + "wishes 0 : 0", ";")
        self.follows(ring + "wishes 0 : 0 ; wishes 1 :", "0", "1")
        self.follows(ring + "wishes 0 : 0 ; wishes 1 : 1 ; wishes 2 :", "0", "2")
        self.follows(ring + "wishes 0 : 0 ; wishes 1 : 1 ; wishes 2 : 0 2 ;")

    def test_completed(self):
        self.assertEqual(completed(""), read_docket(" ".join(docket_tokens(completed("")))))
        self.assertEqual(completed("kind 0 : ; order : ;"), EMPTY)
        self.assertIsNone(completed("kind 0 : ; order : ; ;"))
        self.assertIsNone(completed("kind 0 : 0 0"))
        self.assertEqual(len(completed("kind 0 : 11")[0][0]), 12)
        self.assertEqual(completed("# nothing yet"), completed(""))

    def test_first_wrong_token(self):
        for text, at in (("", 0), ("x", 0), ("kind", 1), ("kind 0 : 0 0", 4), ("kind 0 : 1 ; order", 5),
                         ("kind 0 : ; order : ; ;", 7), ("kind 0 : ; order : ; kind", 7), ("kind 0 : " + "9" * 9999, 3),
                         ("kind 0 : ; person 0 : 0 ; order : ;", 11), ("kind 0 : ; #order\n order :", 6)):
            with self.assertRaises(InvalidText) as caught:
                read_docket(text)
            self.assertEqual(caught.exception.at, at, text)
            self.assertIs(type(caught.exception.at), int)
