"""Moves: somebody stands further ahead in the order of needs."""

from givesifgets.kept import kept_lot


def moved_ahead(order, person, place):
    """The order in which the person stands at a place not behind his own, and all others as before."""
    others = tuple([other for other in order if other != person])
    return others[:place] + (person,) + others[place:]


def after_move(web, order, person, place):
    """None if the same lot is kept when the person is moved ahead, otherwise who comes and who goes."""
    before = kept_lot(web, order)
    behind = kept_lot(web, moved_ahead(order, person, place))
    if before == behind:
        return None
    # as many are kept by each order, and nobody but the person can come by his move
    gone = [other for other in before if other not in behind]
    return (person, gone[0])
