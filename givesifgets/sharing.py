"""Sharing out: pieces in parts, so many that no more weight can be had, and prices that show it.

This is the simplex way in whole numbers: all that it keeps stands over one
common number, the scale, so that nothing is ever rounded.
"""


class Sharing:
    """A sharing out of columns, in which nobody has more than the scale in all, and its prices.

    There is one row for each person and giver; to each row belongs a column
    that has a share, at first the row's own, which takes up what is left over.
    """

    def __init__(self, size):
        self.scale = 1
        self.columns = [(row,) for row in range(size)]
        self.shares = [1 for _ in range(size)]
        self.inverse = [[1 if row == at else 0 for row in range(size)] for at in range(size)]
        self.prices = [0 for _ in range(size)]

    def another(self):
        """An equal one, to go on with apart from this one."""
        other = Sharing(0)
        other.scale = self.scale
        other.columns = list(self.columns)
        other.shares = list(self.shares)
        other.inverse = [list(row) for row in self.inverse]
        other.prices = list(self.prices)
        return other

    def settle(self, weights, sets):
        """Go on until the prices, by these weights, pay for every column of the piece sets."""
        self.begin(weights, sets)
        more, column = self.missing_most(weights, sets)
        while column is not None:
            self.take(column, more)
            more, column = self.missing_most(weights, sets)

    def begin(self, weights, sets):
        """The prices that the columns with a share ask for by these weights."""
        asked = [self.weight_at(column, weights, sets) for column in self.columns]
        rows = [(weight, row) for weight, row in zip(asked, self.inverse) if weight != 0]
        self.prices = [sum([weight * row[at] for weight, row in rows]) for at in range(len(self.columns))]

    def weight_at(self, column, weights, sets):
        if len(column) == 1:
            return 0
        # what does not fit any more costs something: so it has no share in the end
        return -1 if sets.piece_at(column) is None else sum([weights[row] for row in column])

    def missing_most(self, weights, sets):
        """How much the prices lack for the column for which they lack most, and this column, None if for none."""
        over = [self.scale * weight - price for weight, price in zip(weights, self.prices)]
        best, column = sets.dearest(over)
        for row, price in enumerate(self.prices):
            if -price > best:
                best, column = -price, (row,)
        return (best, column)

    def take(self, column, more):
        """Give a column as great a share as can be, and take it from another one."""
        steps = [sum([line[place] for place in column]) for line in self.inverse]
        leaving = self.first_used_up(steps)
        lead, taken, share = steps[leaving], self.inverse[leaving], self.shares[leaving]
        for at, step in enumerate(steps):
            if at != leaving and (step != 0 or lead != self.scale):
                row = self.inverse[at]
                self.inverse[at] = [(x * lead - step * y) // self.scale for x, y in zip(row, taken)]
                self.shares[at] = (self.shares[at] * lead - step * share) // self.scale
        self.prices = [(price * lead + more * y) // self.scale for price, y in zip(self.prices, taken)]
        self.columns[leaving] = column
        self.scale = lead

    def first_used_up(self, steps):
        """The row whose column's share is used up first if these steps are taken.

        Of several such the first by the rows of the inverse: so no state comes
        again, and the way ends.
        """
        first = None
        for at, step in enumerate(steps):
            if step > 0 and (first is None or self.is_sooner(at, first, steps)):
                first = at
        return first

    def is_sooner(self, at, other, steps):
        step, far = steps[at], steps[other]
        if self.shares[at] * far != self.shares[other] * step:
            return self.shares[at] * far < self.shares[other] * step
        for x, y in zip(self.inverse[at], self.inverse[other]):
            if x * far != y * step:
                return x * far < y * step
        return False

    def parts(self):
        """The pairs (column, share) of the columns of pieces with a share above 0."""
        return [(column, share) for column, share in zip(self.columns, self.shares) if len(column) > 1 and share > 0]
