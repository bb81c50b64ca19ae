"""What a number, a sequence, a pair of numbers is: the checks that all modules share."""


def is_integer(value):
    """Whether any value is an integer; True and False are none, although Python counts them so."""
    return isinstance(value, int) and not isinstance(value, bool)


def is_number(value):
    """Whether any value is an integer from 0 on."""
    return is_integer(value) and value >= 0


def is_below(n, value):
    """Whether any value is a number below n."""
    return is_number(value) and value < n


def is_sequence(value):
    """Whether any value is a list or a tuple."""
    return isinstance(value, (list, tuple))


def is_tuple_of(size, value):
    """Whether any value is a tuple of so many things."""
    return isinstance(value, tuple) and len(value) == size


def is_ascending(row):
    """Whether each thing of a sequence is less than the next one; they must be of one kind."""
    return all([row[at - 1] < row[at] for at in range(1, len(row))])


def are_below(n, value):
    """Whether any value is a tuple of numbers below n."""
    return isinstance(value, tuple) and all([is_below(n, thing) for thing in value])


def are_unlike_below(n, value):
    """Whether any value is a tuple of unlike numbers below n."""
    return are_below(n, value) and len(set(value)) == len(value)


def are_ascending_below(n, value):
    """Whether any value is an ascending tuple of numbers below n."""
    return are_below(n, value) and is_ascending(value)


def is_pair_below(n, value):
    """Whether any value is a pair of numbers below n."""
    return is_tuple_of(2, value) and are_below(n, value)


def as_pair(one, other):
    """The pair of two numbers, the lesser one first, as webs have them."""
    return (one, other) if one < other else (other, one)
