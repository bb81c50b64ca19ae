"""How far into the days a lot of jobs must reach: what fronts and timetables are read from.

A lot of jobs is told by its mask, in which job k is the bit 1 << k. A place is
a day and how many gifts are made on it, in one number: day * DAY + gifts.
"""

# more than the gifts of any day
DAY = 64


def days_needed(place):
    """How many first days there are up to a place: none for the empty lot's, which is 0."""
    return (place + DAY - 1) // DAY


def far_place(calendar):
    """A place behind all days, for what cannot be done."""
    return (len(calendar) + 1) * DAY


def _rooms(calendar, job):
    """For each day how many gifts there may be on it so that the job still can be done, below 0 if it never can."""
    gifts, days = job
    return [many - gifts if day in days else -1 for day, many in enumerate(calendar)] + [-1]


def _later_places(calendar, rooms, gifts):
    """For each day the first place behind it to which the job leads alone."""
    later = [far_place(calendar)]
    for day in range(len(calendar), 0, -1):
        later.append(day * DAY + gifts if rooms[day] >= 0 else later[-1])
    return later[::-1]


class Filling:
    """For each lot of jobs the least place up to which it can be done, and the job that is done last there.

    What leads to the least place with a job more is the least place without
    it: less of a day, or fewer days, leave at least as much for whatever comes.
    """

    def __init__(self, calendar, jobs):
        self.far = far_place(calendar)
        self.steps = []
        for job in jobs:
            rooms = _rooms(calendar, job)
            self.steps.append((job[0], rooms, _later_places(calendar, rooms, job[0])))
        self.least = [0]
        self.lasts = [None]
        for mask in range(1, 1 << len(jobs)):
            self.fill(mask)

    def fill(self, mask):
        """Find the least place of a lot; those of all its parts are known."""
        best, last = self.far, None
        for at, (gifts, rooms, later) in enumerate(self.steps):
            if mask >> at & 1:
                place = self.least[mask - (1 << at)]
                if place < self.far:
                    day, many = divmod(place, DAY)
                    place = place + gifts if many <= rooms[day] else later[day]
                if place < best:
                    best, last = place, at
        self.least.append(best)
        self.lasts.append(last)
