"""Hiding: what is kept if some pairs are not there."""

from givesifgets.kept import kept_lot
from givesifgets.servable import serving_plan


def pairs_at(web, lot):
    """The pairs of the web that have somebody of the lot."""
    return tuple([(u, v) for u, v in web[1] if u in lot or v in lot])


def less(web, pairs):
    """The web without some of its pairs."""
    hidden = {pair: True for pair in pairs}
    return (web[0], tuple([pair for pair in web[1] if pair not in hidden]))


def plan_beside(web, order, pairs):
    """None, or some plan that serves just the kept lot and has none of the pairs."""
    # as many are kept as any plan serves: so a plan that serves all of these serves nobody else
    return serving_plan(less(web, pairs), kept_lot(web, order))
