"""Pairs and ties that would help somebody who is not kept, to nobody's harm who stands ahead of him."""

from givesifgets.audits import lot_with_those_ahead, why_not
from givesifgets.changes import pair_turned
from givesifgets.servable import keep_along
from givesifgets.values import as_pair
from givesifgets.webs import arcs_of, pair_web


def _likely_pairs(web, groups, few):
    """The pairs that join two groups, or a group with somebody who is in none and not one of the few."""
    names = {person: at for at, group in enumerate(groups) for person in group}
    pairs = []
    for u in range(web[0]):
        for v in range(u + 1, web[0]):
            if names.get(u) != names.get(v) and u not in few and v not in few:
                pairs.append((u, v))
    return pairs


def helping_pairs(web, order, person):
    """All pairs that the web lacks, each of which alone would let the person be kept, with all those ahead."""
    lot = lot_with_those_ahead(web, order, person)
    groups, few = why_not(web, order, person)
    beginning = order[:order.index(person) + 1]
    helping = []
    # no other pair changes how many groups the few must help out, and those that do are none of the web
    for pair in _likely_pairs(web, groups, few):
        _, barriers = keep_along(pair_turned(web, pair), beginning)
        if not any([other in lot for other, _ in barriers]):
            helping.append(pair)
    return tuple(helping)


def helping_ties(registry, order, person):
    """All pairs (friend, other) without a tie that would give the web of the registry a helping pair."""
    helping = {pair: True for pair in helping_pairs(pair_web(registry), order, person)}
    known = {arc: True for arc in arcs_of(registry)[1]}
    ties = []
    for friend, (_, owner) in enumerate(registry[2]):
        if owner is not None:
            # the owner lacks the other half of the pair: so none of his friends has a tie to the other one
            others = [other for other in range(len(registry[1])) if (other, owner) in known]
            ties.extend([(friend, other) for other in others if as_pair(owner, other) in helping])
    return tuple(ties)
