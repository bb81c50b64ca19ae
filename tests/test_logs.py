"""Promises [64] to [67]: rows, logs, cuts and mending, read back."""

import itertools
import random
import re
import unittest

from givesifgets.deeds import do_all, do_deed
from givesifgets.errors import InvalidDeed, InvalidLog
from givesifgets.logrows import deed_of, row_of
from givesifgets.logs import cut_log, log_of, logged, mended, read_back
from givesifgets.worlds import start_world
from tests.plain import ODD_VALUES, all_values_near, only_tuples
from tests.plainworlds import drawn_registry, drawn_run, plain_start, wrong_entry
from tests.test_worlds import REGISTRY, great_registry

NUMBER = r"(?:0|[1-9][0-9]{0,999})"
TIE = NUMBER + ">" + NUMBER
ROW = re.compile(r"test %s %s (?:holds|fails)\.|ring(?: %s){2,}\.|link %s\.|(?:away|back) %s\.|come (?:-|%s)(?: %s)*\.|day\."
                 % (NUMBER, NUMBER, TIE, TIE, NUMBER, NUMBER, NUMBER))
GREAT = 10 ** 999
FORMS = [("test", 3, 1, True), ("test", 0, 10, False), ("ring", ((0, 1), (1, 0))), ("ring", ((12, 3), (4, 5), (6, 70))),
         ("link", (3, 2)), ("link", (0, 100)), ("away", 4), ("back", 0), ("come", 1, (0, 0)), ("come", None, (0,)),
         ("come", None, ()), ("come", 0, ()), ("come", 11, (10, 2, 3)), ("day",), ("away", GREAT), ("test", GREAT, 0, True),
         ("ring", ((GREAT, 0), (1, GREAT), (2, 2))), ("come", GREAT, (GREAT, 1))]


def is_plain_row(value):
    return isinstance(value, str) and ROW.fullmatch(value) is not None


def is_plain_beginning(value):
    """Whether a value is a beginning of a row: what goes on from it is tried, word by word."""
    if not isinstance(value, str) or value == "":
        return False
    endings = ["1 1 holds.", "1 1 fails.", "1>1 1>1.", "1>1.", "1.", "-.", "."]
    rows = [word + " " + ending for word in ("test", "ring", "link", "away", "back", "come") for ending in endings]
    rows = [row for row in rows + ["day."] if is_plain_row(row)]
    tails = {row[at:] for row in rows for at in range(len(row))} | {" 1>1 1>1.", ">1 1>1.", " 1 holds.", " 1."}
    return any(is_plain_row(value + tail) for tail in tails if tail)


def rows_near(row):
    """Strings that differ from a row in one place."""
    yield from (row, row + ".", row + " ", " " + row, row + "\n", row[:-1], row[:-1] + " .", row.upper(), row + row, row[::-1])
    for at in range(len(row) + 1):
        yield row[:at] + row[at + 1:]
        for sign in " .>0-+_x1\u0661\u00b2\uff11\t\n,":
            yield row[:at] + sign + row[at:]
            yield row[:at] + sign + row[at + 1:]


class Rows(unittest.TestCase):
    def test_each_form(self):
        wanted = ["test 3 1 holds.", "test 0 10 fails.", "ring 0>1 1>0.", "ring 12>3 4>5 6>70.", "link 3>2.", "link 0>100.",
                  "away 4.", "back 0.", "come 1 0 0.", "come - 0.", "come -.", "come 0.", "come 11 10 2 3.", "day."]
        for deed, row in zip(FORMS, wanted):
            self.assertEqual(row_of(deed=deed), row)
        for deed in FORMS:
            row = row_of(deed)
            self.assertTrue(is_plain_row(row))
            self.assertEqual(repr(deed_of(row=row)), repr(deed))

    def test_drawn_deeds(self):
        rng = random.Random(641)
        deeds = set()
        for _ in range(60):
            deeds.update(drawn_run(rng, plain_start(drawn_registry(rng)), 12)[0])
        rows = {deed: row_of(deed) for deed in deeds}
        for deed, row in rows.items():
            self.assertEqual(repr(deed_of(row)), repr(deed))
        # unlike deeds have unlike rows; no row begins with another one
        ordered = sorted(rows.values())
        self.assertEqual(len(set(ordered)), len(deeds))
        for one, other in zip(ordered, ordered[1:]):
            self.assertFalse(other.startswith(one))

    def test_texts_near_rows(self):
        seen = {True: 0, False: 0}
        for deed in FORMS[:14]:
            for row in rows_near(row_of(deed)):
                told = deed_of(row)
                wanted = is_plain_row(row)
                self.assertEqual(told is not None, wanted, row)
                if wanted:
                    self.assertEqual(row_of(told), row)
                    self.assertTrue(only_tuples(told))
                seen[wanted] += 1
        self.assertGreater(min(seen.values()), 100)

    def test_what_is_no_row(self):
        for row in ("", ".", " .", "day", "day .", "day. ", " day.", "days.", "day.day.", "day 1.", "ring 0>1.", "ring .", "ring.",
                    "ring 0>1  1>0.", "ring 0>1 1>0", "ring 0>1 1>0 .", "ring 0>1 1.", "ring 0>1>2 1>0.", "ring 0 >1 1>0.",
                    "link 3>2>1.", "link 3.", "link 3>.", "link >3.", "link 3>2 1>2.", "link.", "link 03>2.", "link 3>02.",
                    "away 04.", "away 4", "away  4.", "away -.", "away -4.", "away +4.", "away 4 5.", "away.", "away .", "Away 4.",
                    "come.", "come .", "come --.", "come - -.", "come 1 -.", "come 1  0.", "come - 0 .", "come 01.", "come -0.",
                    "test 3 1.", "test 3 1 hold.", "test 3 1 holds", "test 3 1 True.", "test 3 holds 1.", "test 3>1 holds.",
                    "test 3 1 holds fails.", "test 3 1 Holds.", "away \u0664.", "away \u00b2.", "away 1_0.", "away 1\n.",
                    "away 4.\n", "away 4..", "bac 4.", "away 4.0.", "away 0x4.", "away 00.", "go 4.", "none."):
            self.assertIsNone(deed_of(row), row)
        for odd in ODD_VALUES + [b"day.", ["day."], ("day.",), ("day",), [list("day.")]]:
            self.assertIsNone(deed_of(odd))
        self.assertEqual(deed_of("come -."), ("come", None, ()))

    def test_great_numbers(self):
        for digits in ("9" * 999, "9" * 1000, "1" + "0" * 999):
            self.assertEqual(deed_of("away " + digits + "."), ("away", int(digits)))
            self.assertEqual(row_of(("away", int(digits))), "away " + digits + ".")
        for digits in ("9" * 1001, "9" * 5000, "0" * 1000, "0" + "9" * 999):
            self.assertIsNone(deed_of("away " + digits + "."))
            self.assertIsNone(deed_of("link 0>" + digits + "."))
        row = "ring" + " 0>1" * 4000 + "."
        self.assertEqual(deed_of(row), ("ring", ((0, 1),) * 4000))
        self.assertEqual(row_of(deed_of(row)), row)


def drawn_logs(seed, many, longest=8):
    """Registries with rows of deeds that can be done from their start on, and the worlds along these."""
    rng = random.Random(seed)
    for _ in range(many):
        registry = drawn_registry(rng)
        deeds, worlds = drawn_run(rng, plain_start(registry), rng.randint(0, longest))
        yield registry, deeds, worlds


class Logs(unittest.TestCase):
    def test_log_of(self):
        for _, deeds, _ in drawn_logs(651, 40):
            told = log_of(deeds=deeds)
            self.assertTrue(type(told) is tuple and told == tuple(row_of(deed) for deed in deeds))
            self.assertEqual(log_of(tuple(deeds)), told)

    def test_logged(self):
        rng = random.Random(652)
        for registry, deeds, worlds in drawn_logs(653, 60):
            world, log = start_world(registry), ()
            for at, deed in enumerate(deeds):
                bad = rng.choice([("back", 99), None, (), ("ring", ((0, 0),)), ("test", 0, 0, 1), ("link", 0), ("come", 0)])
                with self.assertRaises(InvalidDeed) as caught:
                    logged(world, log, bad)
                self.assertEqual(caught.exception.at, wrong_entry(world, bad))
                told = logged(world=world, log=log, deed=deed)
                self.assertTrue(type(told) is tuple and len(told) == 2)
                self.assertEqual(told, (worlds[at + 1], log + (row_of(deed),)))
                world, log = told
                # what was done is read back as it was, world by world
                self.assertEqual(read_back(registry, log), world)

    def test_every_cut(self):
        for registry, deeds, worlds in drawn_logs(654, 60):
            log = log_of(deeds)
            signs = "".join(log)
            whole = [len("".join(log[:many])) for many in range(len(log) + 1)]
            for at in range(len(signs) + 3):
                told = cut_log(log=log, signs=at)
                self.assertTrue(type(told) is tuple and only_tuples(told))
                self.assertEqual("".join(told), signs[:at])
                done = max(many for many in range(len(whole)) if whole[many] <= at)
                self.assertEqual(told[:done], log[:done])
                self.assertEqual(len(told), done + (at > whole[done] and done < len(log)))
                self.assertEqual(mended(log=told), log[:done])
                self.assertEqual(mended(mended(told)), mended(told))
                # a deed is done exactly if its last sign is there
                self.assertEqual(read_back(registry=registry, log=told), worlds[done])
                self.assertEqual(read_back(registry, mended(told)), worlds[done])
                # gone on with, it is as if the cut had been made right behind its last whole row
                world, more = worlds[done], mended(told)
                for deed in deeds[done:][:2]:
                    world, more = logged(world, more, deed)
                self.assertEqual(more, log[:done + 2])
        self.assertEqual((cut_log((), 0), cut_log((), 9), mended(()), cut_log(("day.",), 10 ** 999)), ((), (), (), ("day.",)))

    def test_mended(self):
        self.assertEqual(mended(("day.", "da")), ("day.",))
        self.assertEqual(mended(("day.", "day.")), ("day.", "day."))
        self.assertEqual(mended(("r",)), ())


class ReadBack(unittest.TestCase):
    def plain_wrong(self, registry, log):
        """The index that the document tells for any value, None for a log that can be read back."""
        if type(log) is not tuple:
            return 0
        world = plain_start(registry)
        for at, entry in enumerate(log):
            if not is_plain_row(entry):
                torn = at == len(log) - 1 and is_plain_beginning(entry)
                return None if torn else at
            if wrong_entry(world, deed_of(entry)) is not None:
                return at
            world = do_deed(world, deed_of(entry))
        return None

    def check(self, registry, log):
        at = self.plain_wrong(registry, log)
        if at is None:
            deeds = [deed_of(row) for row in log if is_plain_row(row)]
            self.assertEqual(read_back(registry, log), do_all(start_world(registry), deeds))
        else:
            with self.assertRaises(InvalidLog) as caught:
                read_back(registry, log)
            self.assertEqual(repr(caught.exception.at), repr(at), log)
        return at is None

    def test_rows_left_out_doubled_exchanged_torn(self):
        rng = random.Random(671)
        seen = {True: 0, False: 0}
        for registry, deeds, _ in drawn_logs(672, 60, 9):
            log = log_of(deeds)
            values = [log]
            for at in range(len(log)):
                torn = log[at][:rng.randint(0, len(log[at]) - 1)]
                values += [log[:at] + log[at + 1:], log[:at] + log[at:at + 1] * 2 + log[at + 1:], log[:at] + (torn,) + log[at + 1:],
                           log[:at] + (torn,), log[at:] + log[:at], log[:at] + (rng.choice(ODD_VALUES),) + log[at + 1:],
                           log[:at] + ("day. ",) + log[at:], log[:at] + (log[at] + "x",), log[:at] + (log[at],) + ("",)]
                if at:
                    values.append(log[:at - 1] + (log[at], log[at - 1]) + log[at + 1:])
            for value in values:
                seen[self.check(registry, value)] += 1
        self.assertGreater(min(seen.values()), 300)

    def test_torn_entries(self):
        for entry in ("t", "te", "test", "test ", "test 3", "test 3 ", "test 3 1", "test 3 1 ", "test 3 1 h", "test 3 1 fail",
                      "test 3 1 holds", "r", "ring", "ring ", "ring 0", "ring 0>", "ring 0>1", "ring 0>1 ", "ring 0>1 1>0", "l",
                      "link 3>", "link 3>2", "away", "away ", "away 4", "b", "back 10", "come", "come ", "come -", "come - ",
                      "come - 0", "come 1 0 0", "come 1 ", "d", "da", "day", "away " + "9" * 1000, "come 10 11 ",
                      "test " + "9" * 1000, "ring 0>" + "9" * 1000, "come - " + "9" * 1000):
            self.assertTrue(is_plain_beginning(entry), entry)
            self.assertEqual(read_back(REGISTRY, ("day.", entry)), do_deed(start_world(REGISTRY), ("day",)))
            with self.assertRaises(InvalidLog) as caught:
                read_back(REGISTRY, ("day.", entry, "day."))
            self.assertEqual(caught.exception.at, 1)
        for entry in ("", " ", ".", "x", "day ", "days", "test  ", "test 03", "test 3 1 x", "test 3 1 holdsx", "ring 0 ", "ring 0>1 1 ",
                      "ring 0>1.", "link 3>2 ", "link 3 ", "away 04", "away 4 ", "away x", "come --", "come -1", "come - -", "come  ",
                      "ring  ", "away " + "9" * 1001, "away " + "9" * 5000, "tset", "test 3 1 holds. ", "day..", "day.d", " day",
                      "test \u0663", "away 0 ", "away 00", "test 3\n", "ring 0>1  ", "link 0>01", "ring 0>1>"):
            self.assertFalse(is_plain_beginning(entry), entry)
            with self.assertRaises(InvalidLog) as caught:
                read_back(REGISTRY, ("day.", entry))
            self.assertEqual(caught.exception.at, 1, entry)

    def test_beginnings_of_rows(self):
        """Each beginning of a row of each form, and each near it, is told as the plain look tells."""
        seen = {True: 0, False: 0}
        start = start_world(REGISTRY)
        for deed in FORMS[:14]:
            row = row_of(deed)
            for at in range(1, len(row)):
                self.assertEqual(read_back(REGISTRY, (row[:at],)), start)
            for value in itertools.islice(rows_near(row[:-1]), 0, None, 3):
                if not is_plain_row(value):
                    seen[self.check(REGISTRY, (value,))] += 1
        self.assertGreater(min(seen.values()), 100)

    def test_values_that_are_no_logs(self):
        log = log_of([("link", (3, 2)), ("day",), ("link", (2, 0))])
        for value in all_values_near([log, cut_log(log, 18), ()]):
            self.check(REGISTRY, value)
        for odd in ODD_VALUES:
            self.check(REGISTRY, odd)
            self.check(REGISTRY, (odd,))
            self.check(REGISTRY, ("day.", odd, "day."))
        self.assertEqual(read_back(REGISTRY, ()), start_world(REGISTRY))
        with self.assertRaises(InvalidLog) as caught:
            read_back(REGISTRY, ["day."])
        self.assertEqual(caught.exception.at, 0)

    def test_deeds_that_cannot_be_done(self):
        for log, at in ((("link 0>1.",), 0), (("day.", "link 3>9."), 1), (("link 3>2.", "link 3>1."), 1), (("back 0.",), 0),
                        (("away 0.", "away 0."), 1), (("ring 0>1 1>0.", "day.", "ring 0>1 1>0.", "x", "day."), 2),
                        (("test 0 1 fails.", "test 0 1 fails."), 1), (("come 2.",), 0), (("come 0 2.",), 0),
                        (("away " + "9" * 1000 + ".",), 0)):
            with self.assertRaises(InvalidLog) as caught:
                read_back(REGISTRY, log)
            self.assertEqual(caught.exception.at, at, log)

    def test_many_hundred_rows(self):
        """Two thousand rows, of sixty people, are read back soon enough."""
        rng = random.Random(673)
        registry = great_registry()
        ties = [(friend, person) for friend in range(60) for person in range(60) if friend != person]
        world, log = start_world(registry), ()
        while len(log) < 2000:
            friend, person = rng.choice(ties)
            deed = rng.choice([("test", friend, person, rng.random() < 0.3), ("link", (60 + friend, person)), ("day",),
                               ("back" if person in world[5] else "away", person)])
            if wrong_entry(world, deed) is None:
                world, log = logged(world, log, deed)
        self.assertEqual(read_back(registry, log), world)
        cut = cut_log(log, len("".join(log)) // 2)
        self.assertEqual(read_back(registry, cut), read_back(registry, mended(cut)))
