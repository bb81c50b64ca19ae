"""The lots of people of whom rings and chains can be made: prices and weights hang on these alone."""

from givesifgets.routes import Routes


class PieceSets:
    """For each lot of people that some fitting piece has, one such piece.

    A *column* is a lot with the number n + g of the giver g behind it if it is a
    chain's: the numbers of all whom one price each is asked of for the piece.
    """

    def __init__(self, arcs, limits, case):
        longest_ring, longest_chain = limits
        self.n = arcs[0]
        self.routes = Routes(arcs, case)
        self.by_ring = {tuple(sorted(people)): people for people in self.routes.rings(longest_ring)}
        self.by_first = {}
        for first, chains in self.routes.all_chains(longest_chain).items():
            self.by_first[first] = {tuple(sorted(people)): people for people in chains}

    def chain_at(self, giver, lot):
        """The people of some fitting chain of a giver with this lot, None if there is none."""
        for first in self.routes.firsts[giver]:
            if lot in self.by_first[first]:
                return self.by_first[first][lot]
        return None

    def lots_of_giver(self, giver):
        """For each lot of a fitting chain of a giver its people, in the chain's order."""
        found = {}
        for first in self.routes.firsts[giver]:
            for lot, people in self.by_first[first].items():
                found[lot] = people
        return found

    def piece_at(self, column):
        """Some fitting piece with a column, None if there is none."""
        if column[-1] < self.n:
            people = self.by_ring.get(column)
            return None if people is None else ("ring", people)
        giver = column[-1] - self.n
        people = self.chain_at(giver, column[:-1])
        return None if people is None else ("chain", giver, people)

    def dearest(self, over):
        """The greatest sum above 0 over a column of pieces, and this column; 0 and None if there is none.

        `over` tells for each person, then for each giver, a number.
        """
        best, column = 0, None
        for lot in self.by_ring:
            total = sum([over[person] for person in lot])
            if total > best:
                best, column = total, lot
        tops = {first: self.top_from(first, over) for first in self.by_first}
        for giver, firsts in enumerate(self.routes.firsts):
            for first in firsts:
                total, lot = tops[first]
                if lot is not None and total + over[self.n + giver] > best:
                    best, column = total + over[self.n + giver], lot + (self.n + giver,)
        return (best, column)

    def top_from(self, first, over):
        """The greatest sum over a lot of a chain from a person, and this lot; None and None if there is none."""
        best, top = None, None
        for lot in self.by_first[first]:
            total = sum([over[person] for person in lot])
            if best is None or total > best:
                best, top = total, lot
        return (best, top)

    def reaches(self, person):
        """Whether some fitting piece has a person."""
        if any([person in lot for lot in self.by_ring]):
            return True
        return any([person in lot for lots in list(self.by_first.values()) for lot in lots])
