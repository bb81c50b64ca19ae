"""Sheets: papers with the question that they answer, so that anyone can look at them alone."""

from givesifgets.audits import is_reason, why_not
from givesifgets.barriers import best_paper, is_best_paper
from givesifgets.bases import is_most_paper, most_paper
from givesifgets.dockets import are_wishes
from givesifgets.errors import InvalidQuestion, Refused
from givesifgets.gaining import is_gaining
from givesifgets.kept import kept_lot
from givesifgets.keptpapers import is_kept_paper, kept_paper
from givesifgets.lotbarriers import is_lot_paper, lot_paper
from givesifgets.registry import MOST_PEOPLE
from givesifgets.trading import is_deal
from givesifgets.values import is_below, is_sequence, is_tuple_of
from givesifgets.webs import is_lot, is_order, is_web
from givesifgets.wishprices import are_prices, deal_paper


def _asks_web(question):
    return is_tuple_of(1, question) and is_web(question[0])


def _asks_lot(question):
    return is_tuple_of(2, question) and is_web(question[0]) and is_lot(question[0][0], question[1])


def _asks_order(question):
    return is_tuple_of(2, question) and is_web(question[0]) and is_order(question[0][0], question[1])


def _asks_person(question):
    if not is_tuple_of(3, question) or not _asks_order(question[:2]):
        return False
    web, order, person = question
    return is_below(web[0], person) and person not in kept_lot(web, order)


def _asks_deal(question):
    if not is_tuple_of(2, question) or not isinstance(question[0], tuple) or len(question[0]) > MOST_PEOPLE:
        return False
    return are_wishes(len(question[0]), question[0]) and is_deal(question[0], question[1])


def _best(question):
    return best_paper(question[0])


def _is_best(question, value):
    return is_best_paper(question[0], value)


def _lot(question):
    return lot_paper(question[0], question[1])


def _is_lot(question, value):
    return is_lot_paper(question[0], question[1], value)


def _most(question):
    return most_paper(question[0], question[1])


def _is_most(question, value):
    return is_most_paper(question[0], question[1], value)


def _kept(question):
    return kept_paper(question[0], question[1])


def _is_kept(question, value):
    return is_kept_paper(question[0], question[1], value)


def _reason(question):
    return why_not(question[0], question[1], question[2])


def _is_reason(question, value):
    return is_reason(question[0], question[1], question[2], value)


def _prices(question):
    """The prices of a deal, None if some lot gains over it."""
    paper = deal_paper(question[0], question[1])
    return paper[1] if paper[0] == "prices" else None


def _are_prices(question, value):
    return are_prices(question[0], question[1], value)


def _gaining(question):
    """A lot that gains over a deal with its shares, None if it has prices."""
    paper = deal_paper(question[0], question[1])
    return paper[1:] if paper[0] == "gaining" else None


def _is_gaining(question, value):
    return is_gaining(question[0], question[1], value)


# for each kind of sheet what tells of any value whether it is a question for it
QUESTIONS = {
    "best": _asks_web,
    "lot": _asks_lot,
    "most": _asks_lot,
    "kept": _asks_order,
    "reason": _asks_person,
    "prices": _asks_deal,
    "gaining": _asks_deal,
}
# what makes it, and what looks at it
MAKERS = {
    "best": _best,
    "lot": _lot,
    "most": _most,
    "kept": _kept,
    "reason": _reason,
    "prices": _prices,
    "gaining": _gaining,
}
LOOKERS = {
    "best": _is_best,
    "lot": _is_lot,
    "most": _is_most,
    "kept": _is_kept,
    "reason": _is_reason,
    "prices": _are_prices,
    "gaining": _is_gaining,
}


def _is_name(value):
    return isinstance(value, str) and value in QUESTIONS


def sheet_holds(value):
    """Whether any value is a sheet that holds."""
    if not is_tuple_of(3, value) or not _is_name(value[0]):
        return False
    name, question, shown = value
    asks = QUESTIONS[name]
    looks = LOOKERS[name]
    return asks(question) and looks(question, shown)


def sheet(name, question):
    """A sheet of a kind that holds, with its question, both any values."""
    if not _is_name(name):
        raise Refused(0)
    asks = QUESTIONS[name]
    if not asks(question):
        raise Refused(1)
    makes = MAKERS[name]
    value = makes(question)
    if value is None:
        raise Refused(2)
    return (name, question, value)


def wrong_sheets(values):
    """The indexes of those of a sequence that are no sheets that hold."""
    if not is_sequence(values):
        raise InvalidQuestion(0)
    return tuple([at for at, value in enumerate(values) if not sheet_holds(value)])
