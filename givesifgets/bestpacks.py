"""Best packs: the heaviest ones, those that keep a case, those that serve a lot."""

from givesifgets.cases import forced_people
from givesifgets.families import Families, mask_of
from givesifgets.packs import served_by, weights_by
from givesifgets.piecesets import PieceSets
from givesifgets.routes import refuse_many


def _heaviest_serving(arcs, limits, weights, case, lot):
    """None, or some heaviest pack of pieces that fit a case, with all people of a lot."""
    refuse_many(arcs)
    families = Families(PieceSets(arcs, limits, case), len(arcs[2]))
    mask = families.heaviest(weights, mask_of(lot))
    return None if mask is None else families.pack_at(mask)


def best_keeping(arcs, limits, weights, case):
    """None, or some heaviest pack that keeps a case; Refused(n) above 14 people."""
    # a pack of fitting pieces keeps the case exactly if it has all to whom this gives a source
    return _heaviest_serving(arcs, limits, weights, case, forced_people(case))


def best_lot(arcs, limits, worths, order):
    """The lot that the heaviest packs by worths, then by the order, serve; Refused(n) above 14 people."""
    return served_by(_heaviest_serving(arcs, limits, weights_by(worths, order), (), ()))


def pack_for(arcs, limits, lot):
    """None, or some pack that serves a lot, perhaps others, too; Refused(n) above 14 people."""
    return _heaviest_serving(arcs, limits, [0 for _ in range(arcs[0])], (), lot)
