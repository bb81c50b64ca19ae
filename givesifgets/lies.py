"""What comes of it when people tell other wishes than their own."""

from givesifgets.trading import prefers, trade


def asking(wishes, person, other):
    """The wishes in which a person asks for one other alone, or for nobody but itself."""
    row = (person,) if other == person else (other, person)
    return wishes[:person] + (row,) + wishes[person + 1:]


def reach(wishes, person):
    """The lot of all whom a person gets by the trade if it tells some row of its own."""
    # whatever row it tells, it gets the first one in it who is in its reach: so asking for one tells of him
    shares = [trade(asking(wishes, person, other))[person] for other in range(len(wishes))]
    return tuple([other for other, share in enumerate(shares) if share == other])


def loser(wishes, told):
    """None if both wishes have the same trade, otherwise somebody who tells another row and loses by it."""
    best, other = trade(wishes), trade(told)
    for person, share in enumerate(best):
        if wishes[person] != told[person] and prefers(wishes, person, share, other[person]):
            return person
    return None
