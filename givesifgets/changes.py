"""Changes of one pair, or of all pairs of one person."""

from givesifgets.hiding import less
from givesifgets.kept import kept_lot
from givesifgets.news import come_and_gone, come_and_gone_lots
from givesifgets.webs import without


def pair_turned(web, pair):
    """The web without the pair if it has it, otherwise with it."""
    if pair in web[1]:
        return less(web, (pair,))
    return (web[0], tuple(sorted(web[1] + (pair,))))


def pair_news(web, order, pair):
    """What the kept lot does when the pair is turned."""
    come, gone = come_and_gone(web, pair_turned(web, pair), order)
    if come and gone:
        return ("instead", come[0], gone[0])
    if come:
        return ("come", come)
    if gone:
        return ("go", gone)
    return ("same",)


def person_gone(web, order, person):
    """What the kept lot does when all pairs of the person vanish."""
    before = kept_lot(web, order)
    if person not in before:
        return ("same",)
    come, gone = come_and_gone_lots(before, kept_lot(without(web, (person,)), order))
    if come:
        return ("instead", come[0])
    return ("go", [other for other in gone if other != person][0])
