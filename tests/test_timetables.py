"""Promises [55] to [58]: calendars, jobs, fronts, timetables and papers of them."""

import itertools
import random
import unittest

from givesifgets.calendars import are_jobs, is_calendar, is_timetable, jobs_of, left_over
from givesifgets.fronts import are_fronts, fronts
from givesifgets.packs import is_pack
from givesifgets.timetables import (fewest_days, first_papers, first_timetable, is_delay_paper, is_first,
                                    timetable_within)
from tests.plain import ODD_VALUES, all_values_near, lots_of, only_tuples

CALENDAR = (4, 5, 4)
JOBS = ((2, (0, 1, 2)), (3, (0, 1, 2)), (2, (0, 2)), (4, (1, 2)))


def whole(value):
    return type(value) is int


def plain_is_calendar(value):
    return type(value) is tuple and len(value) <= 40 and all(whole(many) and 0 <= many <= 60 for many in value)


def plain_is_job(calendar, value):
    if type(value) is not tuple or len(value) != 2 or not whole(value[0]) or not 1 <= value[0] <= 60:
        return False
    days = value[1]
    if type(days) is not tuple or not all(whole(day) and 0 <= day < len(calendar) for day in days):
        return False
    return list(days) == sorted(set(days))


def plain_are_jobs(calendar, value):
    return type(value) is tuple and len(value) <= 14 and all(plain_is_job(calendar, job) for job in value)


def plain_timetables(calendar, jobs):
    """All timetables, the first one first."""
    found = []
    for table in itertools.product(*[days for _, days in jobs]):
        used = [sum(gifts for (gifts, _), on in zip(jobs, table) if on == day) for day in range(len(calendar))]
        if all(many <= most for many, most in zip(used, calendar)):
            found.append(table)
    return found


def plain_can_do(calendar, jobs, lot, day):
    """Whether a lot of jobs can be done on a day."""
    return all(day in jobs[job][1] for job in lot) and sum(jobs[job][0] for job in lot) <= calendar[day]


def plain_fronts(calendar, jobs, days):
    """The fronts, by a trying of all ways to share the jobs out."""
    done, entries = {()}, []
    for day in range(days + 1):
        entries.append(tuple(sorted(lot for lot in done if not any(
            tuple(sorted(lot + (job,))) in done for job in range(len(jobs)) if job not in lot))))
        if day < days:
            more = [lot for lot in lots_of(len(jobs)) if plain_can_do(calendar, jobs, lot, day)]
            done = {tuple(sorted(one + other)) for one in done for other in more if not set(one) & set(other)}
    return tuple(entries)


def plain_are_fronts(calendar, jobs, value):
    if type(value) is not tuple or not 1 <= len(value) <= len(calendar) + 1:
        return False
    lots = lots_of(len(jobs))
    for entry in value:
        if type(entry) is not tuple or not entry:
            return False
        for lot in entry:
            if type(lot) is not tuple or not all(whole(job) for job in lot) or lot not in lots:
                return False
        if list(entry) != sorted(set(entry)):
            return False
    for day in range(len(value) - 1):
        for one in value[day]:
            for other in lots:
                if not set(one) & set(other) and plain_can_do(calendar, jobs, other, day):
                    if not any(set(one + other) <= set(lot) for lot in value[day + 1]):
                        return False
    return True


def drawn_question(rng, most_days=4, most_jobs=4, great=False):
    """A calendar and jobs of it."""
    calendar = tuple(rng.choice((0, 1, 2, 3, 4, 5, 6)) for _ in range(rng.randint(0, most_days)))
    jobs = []
    for _ in range(rng.randint(0, most_jobs)):
        share = rng.choice((0.3, 0.7, 0.9, 1))
        days = tuple(day for day in range(len(calendar)) if rng.random() < share)
        jobs.append((rng.randint(1, 7 if great else 4), days))
    return calendar, tuple(jobs)


def questions(seed, many, most_days=4, most_jobs=4):
    rng = random.Random(seed)
    yield from [((), ()), ((), ((1, ()),)), ((0,), ()), ((0, 0), ((1, (0, 1)),)), ((3,), ((2, ()),)), (CALENDAR, JOBS)]
    for _ in range(many):
        yield drawn_question(rng, most_days, most_jobs, rng.random() < 0.2)


class Calendars(unittest.TestCase):
    def test_is_calendar(self):
        seen = {True: 0, False: 0}
        rows = [(), (0,), (60,), (61,), (60,) * 40, (60,) * 41, (3, 0, 2), (0,) * 40, (0,) * 41, (1, 60, 61), (-1,), (2, -1)]
        for value in all_values_near(rows):
            wanted = plain_is_calendar(value)
            self.assertIs(is_calendar(value=value), wanted, value)
            seen[wanted] += 1
        self.assertGreater(min(seen.values()), 100)

    def test_are_jobs(self):
        seen = {True: 0, False: 0}
        calendar = (1, 60, 0, 5)
        job = (60, (0, 1, 2, 3))
        rows = [(), ((1, ()),), (job,) * 14, (job,) * 15, ((0, (1,)),), ((61, (1,)),), ((60, (3,)), (1, (0,))), ((2, (4,)),),
                ((2, (1, 1)),), ((2, (2, 1)),), ((2, (0, 3)),), ((2, (-1, 3)),), ((2, (False, 3)),), ((True, (0, 3)),)]
        for value in all_values_near(rows):
            wanted = plain_are_jobs(calendar, value)
            self.assertIs(are_jobs(calendar=calendar, value=value), wanted, value)
            seen[wanted] += 1
        self.assertGreater(min(seen.values()), 100)
        self.assertIs(are_jobs((), ((1, ()),)), True)
        self.assertIs(are_jobs((), ((1, (0,)),)), False)
        self.assertIs(are_jobs((0,) * 40, ((1, tuple(range(40))),)), True)

    def test_is_timetable(self):
        seen = {True: 0, False: 0}
        for calendar, jobs in questions(551, 60):
            tables = plain_timetables(calendar, jobs)
            known = {repr(table) for table in tables}
            for value in itertools.product(range(-1, len(calendar) + 1), repeat=len(jobs)):
                self.assertIs(is_timetable(calendar=calendar, jobs=jobs, value=value), repr(value) in known)
            for value in all_values_near(tables[:2]):
                self.assertIs(is_timetable(calendar, jobs, value), repr(value) in known, value)
                seen[repr(value) in known] += 1
        self.assertGreater(min(seen.values()), 60)
        # a day with one gift too many
        self.assertIs(is_timetable((4,), ((2, (0,)), (2, (0,))), (0, 0)), True)
        self.assertIs(is_timetable((4,), ((2, (0,)), (3, (0,))), (0, 0)), False)

    def test_jobs_of(self):
        rng = random.Random(552)
        people = range(9)
        arcs = (9, tuple((u, v) for u in people for v in people if u != v), (tuple(people),) * 3)
        for _ in range(200):
            left, pack = list(people), []
            rng.shuffle(left)
            givers = [0, 1, 2]
            while left:
                size = min(rng.randint(1, 4), len(left))
                row, left = left[:size], left[size:]
                if size > 1 and rng.random() < 0.5:
                    least = row.index(min(row))
                    pack.append(("ring", tuple(row[least:] + row[:least])))
                elif givers:
                    pack.append(("chain", givers.pop(), tuple(row)))
            pack = tuple(sorted(pack))
            self.assertTrue(is_pack(arcs, (4, 4), pack))
            calendar = tuple(rng.randint(0, 9) for _ in range(rng.randint(0, 5)))
            days = range(len(calendar))
            away = tuple(rng.choice(((), tuple(days), tuple(day for day in days if rng.random() < 0.3))) for _ in people)
            told = jobs_of(calendar=calendar, pack=pack, away=away)
            self.assertTrue(plain_are_jobs(calendar, told))
            self.assertEqual(len(told), len(pack))
            for (gifts, on), piece in zip(told, pack):
                self.assertEqual(gifts, len(piece[-1]))
                self.assertEqual(on, tuple(day for day in days if not [p for p in piece[-1] if day in away[p]]))
        self.assertEqual(jobs_of((1,), (), ()), ())
        # days that the calendar does not have, and days in any order
        self.assertEqual(jobs_of((1, 1, 1), (("ring", (0, 1)),), ((7, 2), (0,))), ((2, (1,)),))

    def test_fourteen_pieces(self):
        pack = tuple(("chain", giver, (giver,)) for giver in range(14))
        told = jobs_of((0,) * 40, pack, ((),) * 14)
        self.assertEqual(told, ((1, tuple(range(40))),) * 14)
        self.assertIs(are_jobs((0,) * 40, told), True)

    def test_left_over(self):
        rng = random.Random(553)
        for calendar, jobs in questions(554, 80):
            for table in rng.sample(plain_timetables(calendar, jobs), min(3, len(plain_timetables(calendar, jobs)))):
                for many in range(len(jobs) + 1):
                    told = left_over(calendar=calendar, jobs=jobs, table=table, many=many)
                    self.assertIs(is_calendar(told), True)
                    wanted = list(calendar)
                    for at in range(many):
                        wanted[table[at]] -= jobs[at][0]
                    self.assertEqual(told, tuple(wanted))


class Fronts(unittest.TestCase):
    def test_fronts(self):
        for calendar, jobs in questions(561, 120, 4, 5):
            for days in range(len(calendar) + 1):
                told = fronts(calendar=calendar, jobs=jobs, days=days)
                self.assertTrue(type(told) is tuple and only_tuples(told))
                self.assertEqual(told, plain_fronts(calendar, jobs, days))
                self.assertIs(are_fronts(calendar, jobs, told), True)
        self.assertEqual(fronts((), (), 0), (((),),))

    def test_are_fronts_near(self):
        rng = random.Random(562)
        seen = {True: 0, False: 0}
        for calendar, jobs in questions(563, 30, 3, 3):
            days = rng.randint(0, len(calendar))
            told = plain_fronts(calendar, jobs, days)
            every = (tuple(sorted(lots_of(len(jobs)))),) * len(told)
            full = ((tuple(range(len(jobs))),),) * (days + 1)
            for value in all_values_near([told, full]):
                wanted = plain_are_fronts(calendar, jobs, value)
                self.assertIs(are_fronts(calendar=calendar, jobs=jobs, value=value), wanted, (calendar, jobs, value))
                seen[wanted] += 1
            self.assertIs(are_fronts(calendar, jobs, every), True)
            self.assertIs(are_fronts(calendar, jobs, (((),),) * (len(calendar) + 2)), False)
        self.assertGreater(min(seen.values()), 200)

    def test_are_fronts_drawn(self):
        """Entries of any lots: some fit, most do not."""
        rng = random.Random(564)
        seen = {True: 0, False: 0}
        for calendar, jobs in questions(565, 150, 3, 4):
            told = plain_fronts(calendar, jobs, len(calendar))
            for _ in range(12):
                value = []
                for entry in told[:rng.randint(1, len(told))]:
                    lots = set(entry)
                    for lot in lots_of(len(jobs)):
                        if rng.random() < 0.15:
                            lots.add(lot)
                    if len(lots) > 1 and rng.random() < 0.3:
                        lots.discard(rng.choice(sorted(lots)))
                    value.append(tuple(sorted(lots)))
                wanted = plain_are_fronts(calendar, jobs, tuple(value))
                self.assertIs(are_fronts(calendar, jobs, tuple(value)), wanted, (calendar, jobs, value))
                seen[wanted] += 1
        self.assertGreater(min(seen.values()), 200)

    def test_whatever_fronts(self):
        """What can be done in the first days is part of some lot of whatever fronts; a day or rooms more take nothing."""
        for calendar, jobs in questions(566, 60, 3, 4):
            told = fronts(calendar, jobs, len(calendar))
            more = fronts(tuple(many + 1 for many in calendar), jobs, len(calendar))
            for at, entry in enumerate(told):
                for later in told[at:] + more[at:]:
                    self.assertTrue(all(any(set(lot) <= set(other) for other in later) for lot in entry))


class Timetables(unittest.TestCase):
    def test_within(self):
        delays = 0
        for calendar, jobs in questions(571, 250):
            tables = plain_timetables(calendar, jobs)
            least = min([max(table, default=-1) + 1 for table in tables], default=None)
            self.assertEqual(fewest_days(calendar=calendar, jobs=jobs), least)
            for days in range(len(calendar) + 1):
                told = timetable_within(calendar=calendar, jobs=jobs, days=days)
                within = [table for table in tables if all(day < days for day in table)]
                paper = fronts(calendar, jobs, days)
                if told is None:
                    self.assertEqual(within, [])
                    delays += 1
                else:
                    self.assertTrue(type(told) is tuple and only_tuples(told))
                    self.assertIn(told, within)
                # either a timetable or a delay paper, never both
                self.assertIs(is_delay_paper(calendar=calendar, jobs=jobs, days=days, value=paper), told is None)
        self.assertGreater(delays, 200)
        self.assertEqual((timetable_within((), (), 0), fewest_days((), ())), ((), 0))
        self.assertEqual((timetable_within((3, 3), ((1, ()),), 2), fewest_days((3, 3), ((1, ()),))), (None, None))

    def test_delay_papers_near(self):
        rng = random.Random(572)
        seen = {True: 0, False: 0}
        for calendar, jobs in questions(573, 30, 3, 3):
            days = rng.randint(0, len(calendar))
            rows = [plain_fronts(calendar, jobs, number) for number in range(len(calendar) + 1)]
            for value in all_values_near([rows[days], rows[-1], rows[0]]):
                wanted = plain_are_fronts(calendar, jobs, value) and len(value) == days + 1 and not any(
                    set(lot) >= set(range(len(jobs))) for lot in value[-1])
                self.assertIs(is_delay_paper(calendar, jobs, days, value), wanted, (calendar, jobs, days, value))
                seen[wanted] += 1
        self.assertGreater(min(seen.values()), 40)

    def test_no_paper_where_there_is_a_timetable(self):
        """Whatever fronts are made, none is a delay paper where there is a timetable."""
        rng = random.Random(574)
        for calendar, jobs in questions(575, 100, 3, 3):
            days = fewest_days(calendar, jobs)
            if days is not None:
                for _ in range(30):
                    lots = lots_of(len(jobs))
                    value = tuple(tuple(sorted(rng.sample(lots, rng.randint(1, len(lots))))) for _ in range(days + 1))
                    self.assertIs(is_delay_paper(calendar, jobs, days, value), False)

    def test_counting_is_enough_for_pairs(self):
        """Where each job's gifts divide those of all that have more, blocks can be counted."""
        rng = random.Random(576)
        seen = {True: 0, False: 0}
        for _ in range(150):
            calendar = tuple(rng.randint(0, 9) for _ in range(rng.randint(1, 4)))
            sizes = rng.choice(((2,), (2, 4), (1, 2, 4), (3, 6), (1, 3), (2, 4, 8)))
            jobs = tuple((rng.choice(sizes), tuple(range(len(calendar)))) for _ in range(rng.randint(1, 6)))
            for days in range(len(calendar) + 1):
                fit = True
                for size in {gifts for gifts, _ in jobs}:
                    wanted = sum(gifts for gifts, _ in jobs if gifts >= size)
                    fit = fit and wanted <= sum(many // size * size for many in calendar[:days])
                self.assertEqual(timetable_within(calendar, jobs, days) is not None, fit)
                seen[fit] += 1
        self.assertGreater(min(seen.values()), 50)
        # rings of three make the difference: 4 + 4 gifts have room for 2 + 3 + 3 as a sum, but not by days
        jobs = ((2, (0, 1)), (3, (0, 1)), (3, (0, 1)))
        self.assertIsNone(timetable_within((4, 4), jobs, 2))


class First(unittest.TestCase):
    def test_first(self):
        nones = 0
        for calendar, jobs in questions(581, 250):
            tables = plain_timetables(calendar, jobs)
            told, papers = first_timetable(calendar=calendar, jobs=jobs), first_papers(calendar=calendar, jobs=jobs)
            if not tables:
                self.assertIsNone(told)
                self.assertIsNone(papers)
                nones += 1
                continue
            self.assertEqual(told, min(tables))
            self.assertTrue(type(papers) is tuple and only_tuples(papers))
            # the first timetable alone has such papers
            for table in tables:
                self.assertIs(is_first(calendar=calendar, jobs=jobs, table=table, value=papers), table == told)
        self.assertGreater(nones, 30)
        self.assertEqual((first_timetable((), ()), first_papers((), ())), ((), ()))

    def plain_is_first(self, calendar, jobs, table, value):
        if type(value) is not tuple or len(value) != len(jobs):
            return False
        for at, paper in enumerate(value):
            left = list(calendar)
            for job in range(at):
                left[table[job]] -= jobs[job][0]
            rest = ((jobs[at][0], tuple(day for day in jobs[at][1] if day < table[at])),) + jobs[at + 1:]
            if not plain_are_fronts(tuple(left), rest, paper) or len(paper) != len(calendar) + 1:
                return False
            if any(len(lot) == len(rest) for lot in paper[-1]):
                return False
        return True

    def test_values_near(self):
        rng = random.Random(582)
        seen = {True: 0, False: 0}
        for calendar, jobs in questions(583, 25, 3, 3):
            tables = plain_timetables(calendar, jobs)
            for table in [min(tables)] + rng.sample(tables, 1) if tables else []:
                for value in all_values_near([first_papers(calendar, jobs)]):
                    wanted = self.plain_is_first(calendar, jobs, table, value)
                    self.assertIs(is_first(calendar, jobs, table, value), wanted, (calendar, jobs, table, value))
                    self.assertFalse(wanted and table != min(tables))
                    seen[wanted] += 1
        self.assertGreater(min(seen.values()), 40)

    def test_papers_of_other_timetables(self):
        """Papers made for another timetable by the same rule show nothing of it."""
        for calendar, jobs in questions(584, 80, 3, 4):
            for table in plain_timetables(calendar, jobs)[1:6]:
                papers = []
                for at in range(len(jobs)):
                    rest = ((jobs[at][0], tuple(day for day in jobs[at][1] if day < table[at])),) + jobs[at + 1:]
                    papers.append(fronts(left_over(calendar, jobs, table, at), rest, len(calendar)))
                self.assertIs(is_first(calendar, jobs, table, tuple(papers)), False)

    def test_plain_row(self):
        """Jobs of one size, all days: each on the first day that has room, and none within fewer days."""
        rng = random.Random(585)
        for _ in range(60):
            calendar = tuple(rng.randint(0, 7) for _ in range(rng.randint(1, 6)))
            size = rng.randint(1, 4)
            jobs = ((size, tuple(range(len(calendar)))),) * rng.randint(0, 8)
            left, row = list(calendar), []
            for _ in jobs:
                free = [day for day, many in enumerate(left) if many >= size]
                if not free:
                    row = None
                    break
                left[free[0]] -= size
                row.append(free[0])
            told = first_timetable(calendar, jobs)
            self.assertEqual(told, None if row is None else tuple(row))
            if row is not None:
                self.assertEqual(fewest_days(calendar, jobs), max(row, default=-1) + 1)

    def test_forty_days(self):
        """The greatest calendars and the most jobs answer soon."""
        every = tuple(range(40))
        rng = random.Random(586)
        hard = tuple((1 + at % 3, tuple(rng.sample(every, 12))) for at in range(14))
        hard = tuple((gifts, tuple(sorted(days))) for gifts, days in hard)
        for calendar, jobs in (((3,) * 40, hard), ((1,) * 40, ((1, every),) * 14), ((60,) + (0,) * 39, ((4, every),) * 14)):
            self.assertTrue(is_calendar(calendar) and are_jobs(calendar, jobs))
            table = first_timetable(calendar, jobs)
            self.assertIs(is_timetable(calendar, jobs, table), True)
            self.assertIs(is_first(calendar, jobs, table, first_papers(calendar, jobs)), True)
            days = fewest_days(calendar, jobs)
            self.assertIs(is_timetable(calendar, jobs, timetable_within(calendar, jobs, days)), True)
            paper = fronts(calendar, jobs, days - 1)
            self.assertIs(is_delay_paper(calendar, jobs, days - 1, paper), True)
        self.assertEqual([odd for odd in ODD_VALUES if is_first((), (), (), odd)], [()])
