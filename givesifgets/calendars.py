"""Calendars, the jobs that pieces make, and timetables in which each job has its day."""

from givesifgets.pieces import people_of
from givesifgets.values import are_ascending_below, are_below, is_below, is_tuple_of

MOST_DAYS = 40
MOST_GIFTS = 60
MOST_JOBS = 14


def is_calendar(value):
    """Whether any value is a calendar: for each day how many gifts can be made on it."""
    return are_below(MOST_GIFTS + 1, value) and len(value) <= MOST_DAYS


def _is_job(calendar, value):
    if not is_tuple_of(2, value) or not is_below(MOST_GIFTS + 1, value[0]) or value[0] == 0:
        return False
    return are_ascending_below(len(calendar), value[1])


def are_jobs(calendar, value):
    """Whether any value is jobs of the calendar."""
    if not isinstance(value, tuple) or len(value) > MOST_JOBS:
        return False
    return all([_is_job(calendar, thing) for thing in value])


def jobs_of(calendar, pack, away):
    """For each piece of a pack its job: its gifts, and the days on which nobody of it is away."""
    jobs = []
    for piece in pack:
        people = people_of(piece)
        days = [day for day in range(len(calendar)) if not any([day in away[person] for person in people])]
        jobs.append((len(people), tuple(days)))
    return tuple(jobs)


def is_timetable(calendar, jobs, value):
    """Whether any value is a timetable: one of its days for each job, and no day too full."""
    if not are_below(len(calendar), value) or len(value) != len(jobs):
        return False
    if not all([day in days for day, (_, days) in zip(value, jobs)]):
        return False
    return all([many >= 0 for many in left_over(calendar, jobs, value, len(jobs))])


def left_over(calendar, jobs, table, many):
    """The calendar without the gifts of the first so many jobs on their days."""
    left = list(calendar)
    for (gifts, _), day in zip(jobs[:many], table):
        left[day] -= gifts
    return tuple(left)
