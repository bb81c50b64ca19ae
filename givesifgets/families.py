"""Families of lots that packs serve exactly, each family one great number.

A lot is the number whose binary digits stand at its people; a family the
number whose binary digits stand at its lots. So one shift adds a piece to all
lots at once.
"""


def mask_of(lot):
    """The number of a lot."""
    return sum([1 << person for person in lot])


class Families:
    """The lots that packs of fitting pieces serve, grown stage by stage; from each stage at most one piece is taken."""

    def __init__(self, sets, givers):
        # for each person the family of all lots without him
        every = (1 << (1 << sets.n)) - 1
        self.lacking = [every // ((1 << (1 << person)) + 1) for person in range(sets.n)]
        self.family = 1
        self.stages = []
        for least in range(sets.n):
            self.grow({lot: ("ring", people) for lot, people in sets.by_ring.items() if lot[0] == least})
        for giver in range(givers):
            chains = sets.lots_of_giver(giver)
            self.grow({lot: ("chain", giver, people) for lot, people in chains.items()})

    def grow(self, pieces):
        """One stage more, for the pieces of these lots, of which a pack has at most one."""
        before = self.family
        self.stages.append((before, pieces))
        for lot in pieces:
            apart = before
            for person in lot:
                apart = apart & self.lacking[person]
            self.family = self.family | (apart << mask_of(lot))

    def heaviest(self, weights, wanted):
        """The number of a lot of the family that has all of the wanted one and weighs most, None if none has."""
        sums = [0]
        for weight in weights:
            sums = sums + [total + weight for total in sums]
        best = None
        for mask, sign in enumerate(reversed(f"{self.family:b}")):
            if sign == "1" and mask & wanted == wanted and (best is None or sums[mask] > sums[best]):
                best = mask
        return best

    def pack_at(self, mask):
        """Some pack that serves just a lot of the family."""
        pack = []
        for before, pieces in reversed(self.stages):
            if before >> mask & 1 == 0:
                lot = [other for other in pieces if self.leads(before, other, mask)][0]
                pack.append(pieces[lot])
                mask = mask - mask_of(lot)
        return tuple(sorted(pack))

    def leads(self, before, lot, mask):
        """Whether a lot makes another one out of one of an earlier family."""
        part = mask_of(lot)
        return mask & part == part and before >> (mask - part) & 1 == 1
