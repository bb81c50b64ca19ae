"""Tests one after another: which pair to test next, so that few tests do."""

from givesifgets.errors import Refused
from givesifgets.plans import is_plan
from givesifgets.search import grown_plan, largest_plan
from givesifgets.values import is_pair_below, is_tuple_of

MOST_PAIRS_TO_TEST = 7


class Trials:
    """The pairs of a web that are not good yet, and all states that tests of them lead to.

    A state is told by two numbers whose binary digits stand at these pairs: those
    that were held to be good since, and those that are left to test; all others failed.
    """

    def __init__(self, web, good):
        known = {pair: True for pair in good}
        self.n = web[0]
        self.good = tuple(good)
        self.unknown = [pair for pair in web[1] if pair not in known]
        self.everything = (1 << len(self.unknown)) - 1
        self.counts = {}
        # for each number the largest plan of the good pairs and those of the number
        self.plans = [largest_plan(self.web_of(0))]
        for mask in range(1, self.everything + 1):
            plan = self.plans[mask & (mask - 1)]
            grown = grown_plan(self.web_of(mask), plan)
            self.plans.append(plan if grown is None else grown)

    def web_of(self, mask):
        """The web of the good pairs and those of a number."""
        return (self.n, tuple(sorted(self.good + tuple([self.unknown[at] for at in self.places(mask)]))))

    def places(self, mask):
        """The places of the pairs of a number."""
        return [at for at in range(len(self.unknown)) if mask >> at & 1 == 1]

    def is_over(self, held, left, most):
        """Whether tests are over."""
        return most == 0 or len(self.plans[held]) == len(self.plans[held | left])

    def fewest(self, held, left, most):
        """The least number of tests that do, whatever they tell."""
        if self.is_over(held, left, most):
            return 0
        state = (held, left, most)
        if state not in self.counts:
            self.counts[state] = min([self.tests_with(held, left, most, at) for at in self.places(left)])
        return self.counts[state]

    def tests_with(self, held, left, most, at):
        """The least number of tests that do if a pair is tested first."""
        rest = left - (1 << at)
        return 1 + max(self.fewest(held + (1 << at), rest, most), self.fewest(held, rest, most - 1))

    def tree(self, held, left, most):
        """Some tree that asks no more often than must be."""
        if self.is_over(held, left, most):
            return ("over", self.plans[held | left] if most == 0 else self.plans[held])
        _, at = min([(self.tests_with(held, left, most, place), place) for place in self.places(left)])
        rest = left - (1 << at)
        return ("ask", self.unknown[at], self.tree(held + (1 << at), rest, most), self.tree(held, rest, most - 1))

    def is_tree(self, held, left, most, value):
        """Whether any value is a tree."""
        if self.is_over(held, left, most):
            return is_tuple_of(2, value) and value[0] == "over" and self.is_end(held, left, most, value[1])
        if not is_tuple_of(4, value) or value[0] != "ask" or not is_pair_below(self.n, value[1]):
            return False
        _, pair, after_held, after_failed = value
        for at in self.places(left):
            if self.unknown[at] == pair:
                rest = left - (1 << at)
                first = self.is_tree(held + (1 << at), rest, most, after_held)
                return first and self.is_tree(held, rest, most - 1, after_failed)
        return False

    def is_end(self, held, left, most, value):
        """Whether any value is a largest plan, of good pairs alone unless nothing more would fail."""
        web = self.web_of(held | left if most == 0 else held)
        return is_plan(web, value) and len(value) == len(self.plans[held | left])


def _begun(web, good):
    """The tests of a web; Refused(0) if more than seven pairs are not good."""
    if len(web[1]) - len(good) > MOST_PAIRS_TO_TEST:
        raise Refused(0)
    return Trials(web, good)


def missing(web, good):
    """The least number of pairs of a largest plan that are not good."""
    trials = _begun(web, good)
    most = len(trials.plans[-1])
    return min([len(trials.places(mask)) for mask, plan in enumerate(trials.plans) if len(plan) == most])


def fewest_tests(web, good, most):
    """The least number of tests such that some tree asks, on each way down, at most so often."""
    trials = _begun(web, good)
    return trials.fewest(0, trials.everything, most)


def trial_tree(web, good, most):
    """Some tree that asks, on each way down, at most as often as `fewest_tests` tells."""
    trials = _begun(web, good)
    return trials.tree(0, trials.everything, most)


def is_trial_tree(web, good, most, value):
    """Whether any value is a tree."""
    trials = _begun(web, good)
    return trials.is_tree(0, trials.everything, most, value)
