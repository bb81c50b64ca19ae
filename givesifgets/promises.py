"""Promises: what a life would be without them, and what they cost."""

from givesifgets.living import begun, served_now
from givesifgets.news import come_and_gone_lots


def without_promises(life):
    """Some life with the same world and order, nothing being promised."""
    return begun(life[0], life[1])


def price(life):
    """Those whom just a life without the promises serves, and those whom just this one serves."""
    return come_and_gone_lots(served_now(life), served_now(without_promises(life)))
