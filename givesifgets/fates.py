"""Fates of pairs: whether all, some or none of the largest plans have a pair, and papers for it."""

from givesifgets.barriers import spare_number
from givesifgets.errors import InvalidQuestion
from givesifgets.hiding import less
from givesifgets.plans import is_plan
from givesifgets.search import largest_plan
from givesifgets.threeparts import three_parts
from givesifgets.values import is_pair_below, is_tuple_of
from givesifgets.webs import is_lot, without


def _best_with(web, pair):
    """Some plan as large as any that has the pair."""
    return tuple(sorted(largest_plan(without(web, pair)) + (pair,)))


def _best_without(web, pair):
    """Some plan as large as any that does not have the pair."""
    return largest_plan(less(web, (pair,)))


def fate(web, pair):
    """How many of the largest plans have a pair, any value, which must be one of the web: all, some or none."""
    if not is_pair_below(web[0], pair) or pair not in web[1]:
        raise InvalidQuestion(1)
    most = len(largest_plan(web))
    if len(_best_without(web, pair)) < most:
        return "all"
    return "some" if len(_best_with(web, pair)) == most else "none"


def _capping_lot(web):
    """A lot that caps a web at the number of pairs of its largest plans."""
    return three_parts(web)[1]


def _caps(web, lot, many):
    """Whether a lot shows that no plan of the web has more than so many pairs."""
    return spare_number(web, lot) + 2 * many == web[0]


def fate_paper(web, pair):
    """Some triple that shows the fate of the pair."""
    word = fate(web, pair)
    if word == "all":
        return (word, (largest_plan(web),), _capping_lot(less(web, (pair,))))
    if word == "some":
        return (word, (_best_with(web, pair), _best_without(web, pair)), _capping_lot(web))
    return (word, (largest_plan(web),), _capping_lot(without(web, pair)))


def _are_plans_alike(web, value):
    """Whether any value is a tuple of at least one plan of the web, all with as many pairs."""
    if not isinstance(value, tuple) or not all([is_plan(web, plan) for plan in value]):
        return False
    return len({len(plan) for plan in value}) == 1


def is_fate_paper(web, pair, value):
    """Whether any value is a triple that shows a fate of the pair."""
    if not is_tuple_of(3, value) or not _are_plans_alike(web, value[1]) or not is_lot(web[0], value[2]):
        return False
    word, plans, lot = value
    many = len(plans[0])
    if word == "some":
        return len(plans) == 2 and pair in plans[0] and pair not in plans[1] and _caps(web, lot, many)
    if len(plans) > 1:
        return False
    if word == "all":
        return _caps(less(web, (pair,)), lot, many - 1)
    return word == "none" and _caps(without(web, pair), lot, many - 2)


def needed_pairs(web):
    """The pairs that all largest plans have."""
    plan = largest_plan(web)
    return tuple([pair for pair in plan if len(_best_without(web, pair)) < len(plan)])
