"""Timetables within few days, the first one, and papers that show that there is none."""

from givesifgets.calendars import left_over
from givesifgets.fillings import DAY, Filling, days_needed
from givesifgets.fronts import are_fronts, fronts
from givesifgets.values import is_tuple_of


def _table_of(filling):
    """The timetable that is read from a filling by which all jobs can be done."""
    mask = len(filling.least) - 1
    days = {}
    while mask:
        last = filling.lasts[mask]
        days[last] = filling.least[mask] // DAY
        mask -= 1 << last
    return tuple([days[job] for job in range(len(days))])


def timetable_within(calendar, jobs, days):
    """None, or some timetable within so many days."""
    filling = Filling(calendar, jobs)
    if days_needed(filling.least[-1]) > days:
        return None
    return _table_of(filling)


def is_delay_paper(calendar, jobs, days, value):
    """Whether any value is fronts that show that there is no timetable within so many days."""
    if not is_tuple_of(days + 1, value) or not are_fronts(calendar, jobs, value):
        return False
    return all([len(lot) < len(jobs) for lot in value[-1]])


def fewest_days(calendar, jobs):
    """The least number of days within which there is a timetable, None if there is none."""
    days = days_needed(Filling(calendar, jobs).least[-1])
    return days if days <= len(calendar) else None


def _before(jobs, at, most):
    """The jobs from one on, this one with the first so many of its days alone."""
    gifts, days = jobs[at]
    return ((gifts, days[:most]),) + jobs[at + 1:]


def _first_day(calendar, jobs, at):
    """The first day of a job by which it and all behind it can be done; there must be one."""
    days = jobs[at][1]
    low, high = 1, len(days)
    # more of its days take nothing away: so the least number of them that does is found by halves
    while low < high:
        middle = (low + high) // 2
        if fewest_days(calendar, _before(jobs, at, middle)) is None:
            low = middle + 1
        else:
            high = middle
    return days[low - 1]


def first_timetable(calendar, jobs):
    """None if there is no timetable, otherwise the first one."""
    if fewest_days(calendar, jobs) is None:
        return None
    table = []
    for at in range(len(jobs)):
        table.append(_first_day(left_over(calendar, jobs, table, at), jobs, at))
    return tuple(table)


def _earlier_question(calendar, jobs, table, at):
    """The calendar and jobs of which a paper shows that a job can't be done earlier."""
    earlier = [day for day in jobs[at][1] if day < table[at]]
    return (left_over(calendar, jobs, table, at), _before(jobs, at, len(earlier)))


def first_papers(calendar, jobs):
    """None if there is no timetable, otherwise a tuple of papers for the first one."""
    table = first_timetable(calendar, jobs)
    if table is None:
        return None
    papers = []
    for at in range(len(jobs)):
        left, rest = _earlier_question(calendar, jobs, table, at)
        papers.append(fronts(left, rest, len(calendar)))
    return tuple(papers)


def is_first(calendar, jobs, table, value):
    """Whether any value is a tuple of papers that show that a timetable is the first one."""
    if not is_tuple_of(len(jobs), value):
        return False
    for at, paper in enumerate(value):
        left, rest = _earlier_question(calendar, jobs, table, at)
        if not is_delay_paper(left, rest, len(calendar), paper):
            return False
    return True
