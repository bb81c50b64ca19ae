"""All plans that can be made of some pairs, as far as they are not too many."""

from givesifgets.errors import Refused


def plans_among(pairs, most):
    """All plans made of some of the ascending pairs; Refused(most) if they are more than `most`."""
    found = []
    _add_plans(pairs, (), most, found)
    if len(found) > most:
        raise Refused(most)
    return tuple(found)


def _add_plans(pairs, plan, most, found):
    """Note a plan and all that go on with it by some of the pairs, until one too many is found."""
    # a plan comes ahead of those that go on with it: so they are found in their order
    found.append(plan)
    for at, (u, v) in enumerate(pairs):
        if len(found) > most:
            return
        left = [(p, q) for p, q in pairs[at + 1:] if p not in (u, v) and q not in (u, v)]
        _add_plans(left, plan + ((u, v),), most, found)
