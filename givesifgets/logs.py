"""Logs: rows put on a store one after another, cut anywhere, mended and read back."""

from givesifgets.deeds import do_deed
from givesifgets.errors import InvalidDeed, InvalidLog
from givesifgets.logrows import deed_of, row_of
from givesifgets.worlds import start_world

# whatever is the beginning of a row becomes a row by what one of these goes on with somewhere
SAMPLES = ("test 0 0 holds.", "test 0 0 fails.", "ring 0>0 0>0.", "link 0>0.", "away 0.", "back 0.", "come 0.", "day.")


def _is_beginning(value):
    """Whether any value is a beginning of a row, not empty and not the whole."""
    if not isinstance(value, str) or value == "":
        return False
    endings = [sample[at:] for sample in SAMPLES for at in range(1, len(sample))]
    return any([deed_of(value + ending) is not None for ending in endings])


def log_of(deeds):
    """The log with the rows of a sequence of deeds."""
    return tuple([row_of(deed) for deed in deeds])


def logged(world, log, deed):
    """The world behind a deed, any value, and the log with its row behind."""
    later = do_deed(world, deed)
    return (later, log + (row_of(deed),))


def cut_log(log, signs):
    """The log that is there when only the first so many signs of all rows were put."""
    left = signs
    there = []
    for row in log:
        if left > 0:
            there.append(row[:left])
            left -= len(row)
    return tuple(there)


def mended(log):
    """A log without its last entry if this is torn."""
    if log and deed_of(log[-1]) is None:
        return log[:-1]
    return log


def read_back(registry, log):
    """The world behind the deeds of a log, any value, a torn last entry left out."""
    if not isinstance(log, tuple):
        raise InvalidLog(0)
    world = start_world(registry)
    for at, entry in enumerate(log):
        deed = deed_of(entry)
        if deed is None and at == len(log) - 1 and _is_beginning(entry):
            return world
        try:
            world = do_deed(world, deed)
        except InvalidDeed:
            raise InvalidLog(at) from None
    return world
