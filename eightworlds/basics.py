"""What several modules need: integers, their tuples, fractions, and distances."""

from math import gcd

from eightworlds.errors import InvalidNumber, TooMany


def is_int(value):
    """Return whether any value is an integer."""
    # Python counts True and False as integers, the document does not.
    return isinstance(value, int) and not isinstance(value, bool)


def is_between(value, low, high):
    """Return whether any value is an integer within these bounds."""
    return is_int(value) and low <= value <= high


def are_ints(value, many):
    """Return whether any value is a tuple of just so many integers."""
    return isinstance(value, tuple) and len(value) == many and all([is_int(item) for item in value])


def are_between(value, low, high):
    """Return whether any value is a tuple of integers within these bounds."""
    return isinstance(value, tuple) and all([is_between(item, low, high) for item in value])


def is_ascending(items):
    """Return whether each item is less than the next one."""
    return all([one < other for one, other in zip(items, items[1:])])


def is_same(value, wanted):
    """Return whether any value is a wanted one of tuples and integers, item by item."""
    # Plain == would take True for 1.
    if isinstance(wanted, tuple):
        if not isinstance(value, tuple) or len(value) != len(wanted):
            return False
        return all([is_same(item, other) for item, other in zip(value, wanted)])
    return is_int(value) and value == wanted


def need_number(value, low, high):
    """Raise InvalidNumber for what is no integer within these bounds."""
    if not is_between(value, low, high):
        raise InvalidNumber(f"an integer from {low} to {high} is needed")


def need_few(many, limit):
    """Raise TooMany for more than a limit allows."""
    if many > limit:
        raise TooMany(limit)


def is_fraction(value):
    """Return whether any value is a fraction."""
    return are_ints(value, 2) and value[1] > 0 and gcd(value[0], value[1]) == 1


def ratio(top, below):
    """Return the fraction of two integers, the latter one above nought."""
    common = gcd(top, below)
    return (top // common, below // common)


def ratio_sum(one, other):
    """Return the sum of two fractions."""
    return ratio(one[0] * other[1] + other[0] * one[1], one[1] * other[1])


def ratio_difference(one, other):
    """Return what a fraction is more than another one."""
    return ratio(one[0] * other[1] - other[0] * one[1], one[1] * other[1])


def ratio_product(one, other):
    """Return the product of two fractions."""
    return ratio(one[0] * other[0], one[1] * other[1])


def ratio_quotient(one, other):
    """Return a fraction divided by another one above nought."""
    return ratio(one[0] * other[1], one[1] * other[0])


def distances_by(start, beside):
    """Return how few steps lead to each value, by these, the nearest first; a function lists what is beside one."""
    found = {start: 0}
    layer = [start]
    while layer:
        met = []
        for one in layer:
            for other in beside(one):
                if other not in found:
                    found[other] = found[one] + 1
                    met.append(other)
        layer = met
    return found
