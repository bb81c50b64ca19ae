"""Worths: how much each person's need weighs, and the lot that is worth most."""

from givesifgets.kept import kept_lot


def worth_of(lot, worths):
    """The sum of the worths of a lot."""
    return sum([worths[person] for person in lot])


def falls_along(order, worths):
    """Whether nobody has a greater worth than somebody ahead of him in the order."""
    row = [worths[person] for person in order]
    return all([row[at - 1] >= row[at] for at in range(1, len(row))])


def order_of_worths(worths):
    """The order in which the worths fall, of equal ones the lesser number first."""
    rows = sorted([(-worth, person) for person, worth in enumerate(worths)])
    return tuple([person for _, person in rows])


def dearest_lot(web, worths):
    """The lot kept by the order of the worths: no servable lot is worth more."""
    return kept_lot(web, order_of_worths(worths))
