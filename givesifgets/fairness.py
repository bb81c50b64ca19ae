"""Fair plans: nobody is passed over who could be served without harm to anybody ahead of him."""

from givesifgets.errors import InvalidPlan
from givesifgets.keptpapers import with_those_ahead
from givesifgets.plans import is_plan, served
from givesifgets.servable import serving_plan


def wronged(web, order, plan):
    """None, or the first one whom a plan, any value, passes over, and some plan that shows that it need not."""
    if not is_plan(web, plan):
        raise InvalidPlan(2)
    helped = served(plan)
    for person in order:
        if person not in helped:
            other = serving_plan(web, with_those_ahead(order, helped, person))
            if other is not None:
                return (person, other)
    return None


def is_fair(web, order, plan):
    """Whether any value is a plan of the web by which nobody is wronged."""
    return is_plan(web, plan) and wronged(web, order, plan) is None
