"""Prices that show of a deal, by one look at each wish, that no lot would leave it."""

from givesifgets.gaining import gaining
from givesifgets.trading import rounds, trade
from givesifgets.values import is_number, is_tuple_of


def _preferred(wishes, deal, person):
    """Those whom a person prefers to its share."""
    row = wishes[person]
    return row[:row.index(deal[person])]


def are_prices(wishes, deal, value):
    """Whether any value is a tuple of right prices of the deal."""
    if not is_tuple_of(len(wishes), value) or not all([is_number(price) for price in value]):
        return False
    for person, price in enumerate(value):
        if value[deal[person]] > price:
            return False
        if not all([value[other] > price for other in _preferred(wishes, deal, person)]):
            return False
    return True


def least_prices(wishes):
    """The right prices of the trade that are, person by person, not greater than any others."""
    deal = trade(wishes)
    prices = [0 for _ in wishes]
    # whoever is preferred to a share went in an earlier round: from the last round on all prices above are known
    for rings in reversed(rounds(wishes)):
        for ring in rings:
            price = max([prices[person] for person in ring])
            for person in ring:
                prices[person] = price
                for other in _preferred(wishes, deal, person):
                    prices[other] = max(prices[other], price + 1)
    return tuple(prices)


def deal_paper(wishes, deal):
    """Some right prices of the deal, or some pair that gains over it."""
    pair = gaining(wishes, deal)
    if pair is None:
        return ("prices", least_prices(wishes))
    return ("gaining",) + pair
