"""Routes: who may give to whom in pieces that fit a case, and the rings and chains made of them."""

from givesifgets.errors import Refused

MOST_PEOPLE_OF_PACKS = 14


def refuse_many(arcs):
    """Raise Refused(n) if the arcs have more people than packs are looked for among."""
    if arcs[0] > MOST_PEOPLE_OF_PACKS:
        raise Refused(arcs[0])


class Routes:
    """What is left of some arcs for pieces that fit a case.

    Where the case tells from whom somebody gets, he gets from nobody else, and
    this one gives to nobody else: so just the pieces made of what is left fit.
    """

    def __init__(self, arcs, case):
        n, pairs, givers = arcs
        self.n = n
        self.told = {person: source for person, source in case}
        # to whom the one who gives, a friend's owner or a giver, must give
        self.wanting = {}
        for person, source in case:
            self.wanting.setdefault(source, []).append(person)
        self.nexts = [[] for _ in range(n)]
        for u, v in pairs:
            if self.may_give(("friend", u), v) and self.told.get(u) != ("none",):
                self.nexts[u].append(v)
        self.firsts = []
        for giver, lot in enumerate(givers):
            self.firsts.append([person for person in lot if self.may_give(("giver", giver), person)])
        self.may_end = [("friend", person) not in self.wanting for person in range(n)]

    def may_give(self, source, person):
        """Whether the case lets a person get from a source."""
        return self.told.get(person, source) == source and self.wanting.get(source, [person]) == [person]

    def ways_to(self, person):
        """How many sources are left for a person, besides none."""
        owners = [u for u in range(self.n) if person in self.nexts[u]]
        return len(owners) + len([lot for lot in self.firsts if person in lot])

    def rings(self, longest):
        """The people of all rings, the least one first."""
        found = []
        for first in range(self.n):
            begun = [(first,)]
            while begun:
                people = begun.pop()
                for other in self.nexts[people[-1]]:
                    if other == first:
                        found.append(people)
                    elif other > first and len(people) < longest and other not in people:
                        begun.append(people + (other,))
        return found

    def chains_from(self, first, longest):
        """The people of all chains that begin with a person."""
        found = []
        begun = [(first,)] if longest > 0 else []
        while begun:
            people = begun.pop()
            if self.may_end[people[-1]]:
                found.append(people)
            if len(people) < longest:
                begun.extend([people + (other,) for other in self.nexts[people[-1]] if other not in people])
        return found

    def all_chains(self, longest):
        """For each first person of a chain the people of all that begin with him."""
        firsts = sorted({person for lot in self.firsts for person in lot})
        return {first: self.chains_from(first, longest) for first in firsts}
