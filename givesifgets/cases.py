"""Cases: for some people the source from which each of them is to get."""

from givesifgets.pieces import people_of, source_of, sources_of
from givesifgets.values import is_ascending, is_below, is_integer, is_tuple_of


def is_source(arcs, person, value):
    """Whether any value is a source of a person."""
    if not isinstance(value, tuple) or value not in sources_of(arcs, person):
        return False
    # True and 1.0 equal 1 in Python, but are no numbers of friends or givers
    return all([isinstance(thing, str) or is_integer(thing) for thing in value])


def _is_told(arcs, value):
    """Whether any value is a pair of a person and a source of his."""
    return is_tuple_of(2, value) and is_below(arcs[0], value[0]) and is_source(arcs, value[0], value[1])


def is_case(arcs, value):
    """Whether any value is a case."""
    if not isinstance(value, tuple) or not all([_is_told(arcs, thing) for thing in value]):
        return False
    return is_ascending([person for person, _ in value])


def case_with(case, person, source):
    """The case with a source for one person more."""
    return tuple(sorted(case + ((person, source),)))


def forced_people(case):
    """Those to whom a case gives a source other than none."""
    return [person for person, source in case if source != ("none",)]


def _has_source(piece, source):
    """Whether the friend's owner, or the giver, of a source is in the piece."""
    word, number = source
    if word == "friend":
        return number in people_of(piece)
    return piece[0] == "chain" and piece[1] == number


def _fits(piece, person, source):
    inside = person in people_of(piece)
    if source == ("none",):
        return not inside
    return inside == _has_source(piece, source) and (not inside or source_of(piece, person) == source)


def fits_case(case, piece):
    """Whether a piece fits a case."""
    return all([_fits(piece, person, source) for person, source in case])


def keeps(pack, case):
    """Whether by a pack all people of a case get from their sources."""
    told = {}
    for piece in pack:
        for person in people_of(piece):
            told[person] = source_of(piece, person)
    return all([told.get(person, ("none",)) == source for person, source in case])
