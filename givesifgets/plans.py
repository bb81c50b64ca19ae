"""Plans: pairs of a web of whom no two have a person in common."""

from givesifgets.values import is_ascending, is_pair_below


def is_plan(web, value):
    """Whether any value is a plan of the web."""
    n, pairs = web
    if not isinstance(value, tuple) or not all([is_pair_below(n, pair) for pair in value]):
        return False
    if not is_ascending(value) or not all([pair in pairs for pair in value]):
        return False
    return len({person for pair in value for person in pair}) == 2 * len(value)


def served(plan):
    """The lot of all people in the pairs of a plan."""
    return tuple(sorted([person for pair in plan for person in pair]))


def unserved(web, plan):
    """The lot of all people of the web whom a plan does not serve."""
    helped = {person: True for person in served(plan)}
    return tuple([person for person in range(web[0]) if person not in helped])


def partner(plan, person):
    """The other person of the pair that has this one, None if there is none."""
    for u, v in plan:
        if person in (u, v):
            return u + v - person
    return None


def serves(plan, lot):
    """Whether a plan serves each person of a lot."""
    helped = {person: True for person in served(plan)}
    return all([person in helped for person in lot])
