"""Fronts: for each number of first days the greatest lots of jobs that can be done in them."""

from givesifgets.fillings import Filling, days_needed
from givesifgets.values import is_ascending
from givesifgets.webs import is_lot


def _mask_of(lot):
    return sum([1 << job for job in lot])


def _are_lots(many, value):
    """Whether any value is an ascending tuple of lots of so many jobs, at least one."""
    if not isinstance(value, tuple) or not all([is_lot(many, lot) for lot in value]):
        return False
    return len(value) > 0 and is_ascending(value)


def _covered(many, lots):
    """For the mask of each lot of so many jobs whether it is part of one of some lots."""
    covered = [False] * (1 << many)
    for lot in lots:
        covered[_mask_of(lot)] = True
    for at in range(many):
        bit = 1 << at
        covered = [held or covered[mask | bit] for mask, held in enumerate(covered)]
    return covered


def _are_led_on(jobs, day, most, ahead, behind):
    """Whether what is covered, with whatever more can be done on a day of so many gifts, is covered behind it."""
    used = [0 if held else most + 1 for held in ahead]
    for at, (gifts, days) in enumerate(jobs):
        if day in days and gifts <= most:
            bit = 1 << at
            used = [min(many, used[mask - bit] + gifts) if mask & bit else many for mask, many in enumerate(used)]
    return all([held for many, held in zip(used, behind) if many <= most])


def are_fronts(calendar, jobs, value):
    """Whether any value is fronts."""
    if not isinstance(value, tuple) or not 1 <= len(value) <= len(calendar) + 1:
        return False
    if not all([_are_lots(len(jobs), entry) for entry in value]):
        return False
    ahead = _covered(len(jobs), value[0])
    for day, entry in enumerate(value[1:]):
        behind = _covered(len(jobs), entry)
        if not _are_led_on(jobs, day, calendar[day], ahead, behind):
            return False
        ahead = behind
    return True


def _lots_by_mask(many):
    """The lot of jobs of each mask."""
    lots = [()]
    for job in range(many):
        lots.extend([lot + (job,) for lot in list(lots)])
    return lots


def fronts(calendar, jobs, days):
    """The fronts whose lots can be done in the first days, but with no further job."""
    filling = Filling(calendar, jobs)
    needed = [days_needed(place) for place in filling.least]
    entries = [[] for _ in range(days + 1)]
    for lot, mask in sorted([(lot, mask) for mask, lot in enumerate(_lots_by_mask(len(jobs)))]):
        further = [needed[mask | 1 << job] for job in range(len(jobs)) if not mask >> job & 1]
        for at in range(needed[mask], min(further + [days + 1])):
            entries[at].append(lot)
    return tuple([tuple(entry) for entry in entries])
