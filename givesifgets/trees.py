"""Trees of prices: by asking from whom people get, and by prices, they show that no pack weighs more."""

from givesifgets.bestpacks import best_keeping
from givesifgets.cases import case_with, forced_people
from givesifgets.errors import InvalidPlan
from givesifgets.packs import is_pack, served_by, weight_of
from givesifgets.pieces import sources_of
from givesifgets.piecesets import PieceSets
from givesifgets.routes import refuse_many
from givesifgets.shares import are_numbers, is_scale, pay_for_all
from givesifgets.sharing import Sharing
from givesifgets.values import is_below, is_integer, is_number, is_tuple_of


def cases_below(arcs, case, person):
    """The cases in which a person gets from each source, in the order of these."""
    return [case_with(case, person, source) for source in sources_of(arcs, person)]


class Grower:
    """Grows a tree for a pack of a given weight, which no pack exceeds."""

    def __init__(self, arcs, limits, weights, best):
        self.arcs = arcs
        self.limits = limits
        self.weights = list(weights)
        self.best = best
        self.size = arcs[0] + len(arcs[2])
        self.found = []
        # so dear that whoever must be served is served wholly if that can be: the scale of
        # a sharing out stays below 4 ** size, as each column has but few ones
        self.bonus = (sum(weights) + 1) << (2 * self.size)

    def grow(self, case, sharing):
        """Add the rows for a case; the sharing is one of a case around it."""
        sets = PieceSets(self.arcs, self.limits, case)
        forced = forced_people(case)
        if not all([sets.reaches(person) for person in forced]):
            self.add_for_nothing(sets, forced)
            return
        asked = self.weights + [0 for _ in self.arcs[2]]
        for person in forced:
            asked[person] += self.bonus
        sharing.settle(asked, sets)
        prices = list(sharing.prices)
        for person in forced:
            prices[person] -= self.bonus * sharing.scale
        if sum(prices) <= self.best * sharing.scale:
            self.add_prices(sharing.scale, prices)
            return
        person = self.who_next(case, sets, sharing)
        self.found.append(("who", person))
        for below in cases_below(self.arcs, case, person):
            self.grow(below, sharing.another())

    def add_prices(self, scale, prices):
        n = self.arcs[0]
        self.found.append(("prices", scale, tuple(prices[:n]), tuple(prices[n:])))

    def add_for_nothing(self, sets, forced):
        """Add prices for a case that no pack keeps, as no piece has somebody of the forced ones."""
        lost = [person for person in forced if not sets.reaches(person)][0]
        prices = self.weights + [0 for _ in self.arcs[2]]
        prices[lost] -= sum(self.weights)
        self.add_prices(1, prices)

    def who_next(self, case, sets, sharing):
        """Whom to ask about: of the people of pieces shared in part him with the fewest sources left."""
        asked = {person: True for person, _ in case}
        n = self.arcs[0]
        parts = [column for column, share in sharing.parts() if share < sharing.scale]
        people = sorted({person for column in parts for person in column if person < n and person not in asked})
        return min([(sets.routes.ways_to(person), person) for person in people])[1]


def tree_of(arcs, limits, weights):
    """Some pack and some tree for it; Refused(n) above 14 people."""
    pack = best_keeping(arcs, limits, weights, ())
    grower = Grower(arcs, limits, weights, weight_of(weights, served_by(pack)))
    grower.grow((), Sharing(grower.size))
    return (pack, tuple(grower.found))


def _asks(n, case, row):
    """Whether any value is a row that asks about a person whom the case does not have."""
    if not is_tuple_of(2, row) or row[0] != "who" or not is_below(n, row[1]):
        return False
    return row[1] not in [person for person, _ in case]


def _are_prices_by(n, case, value):
    """Whether any value is prices of n people, those of forced ones any integers."""
    if not is_tuple_of(n, value):
        return False
    forced = forced_people(case)
    return all([is_number(price) or (is_integer(price) and at in forced) for at, price in enumerate(value)])


def _ends(arcs, limits, weights, best, case, row):
    """Whether any value is a row of prices by which no pack that keeps the case weighs more than the best."""
    if not is_tuple_of(4, row) or row[0] != "prices" or not is_scale(row[1]):
        return False
    _, scale, people, givers = row
    if not _are_prices_by(arcs[0], case, people) or not are_numbers(len(arcs[2]), givers):
        return False
    if sum(people) + sum(givers) > scale * best:
        return False
    return pay_for_all(PieceSets(arcs, limits, case), weights, scale, people, givers)


def fault_of(arcs, limits, weights, pack, tree):
    """None if any value is a tree for the pack, otherwise where it goes wrong; Refused(n) above 14 people."""
    refuse_many(arcs)
    if not is_pack(arcs, limits, pack):
        raise InvalidPlan(3)
    if not isinstance(tree, tuple):
        return 0
    best = weight_of(weights, served_by(pack))
    pile = [()]
    for at, row in enumerate(tree):
        if not pile:
            return at
        case = pile.pop()
        if _asks(arcs[0], case, row):
            pile.extend(cases_below(arcs, case, row[1])[::-1])
        elif not _ends(arcs, limits, weights, best, case, row):
            return at
    return len(tree) if pile else None
