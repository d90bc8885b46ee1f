"""Friezes of fractions, which come of values at the cuts."""

from eightworlds.basics import (
    are_between, is_between, is_same, need_few, ratio_difference, ratio_product, ratio_quotient, ratio_sum
)
from eightworlds.errors import InvalidCorners, InvalidValues
from eightworlds.polygons import need_cutting, pieces_down

MOST_SIDES_BY_VALUES = 12


def need_values(cutting, value):
    """Raise InvalidValues for what is no values of a cutting."""
    if not are_between(value, 1, 1000) or len(value) != len(cutting[1]):
        raise InvalidValues("an integer from 1 to 1000 for each cut is needed")


def third_arrow(one, other, shares):
    """Return the sum of two pairs of fractions, each one taken times its share."""
    return tuple([
        ratio_sum(ratio_product(one[at], shares[0]), ratio_product(other[at], shares[1])) for at in (0, 1)
    ])


def corner_arrows(cutting, spans):
    """Return a pair of fractions for each corner, such that each tie has its span across.

    What two pairs have across is the first item of the one times the second one of the other,
    less the other way round. So between any four pairs the rule of friezes holds by itself.
    """
    end = cutting[0] - 1
    arrows = {0: ((1, 1), (0, 1)), end: ((0, 1), spans[(0, end)])}
    for low, middle, high in pieces_down(cutting):
        base = spans[(low, high)]
        shares = (ratio_quotient(spans[(middle, high)], base), ratio_quotient(spans[(low, middle)], base))
        arrows[middle] = third_arrow(arrows[low], arrows[high], shares)
    return [arrows[corner] for corner in range(cutting[0])]


def across(one, other):
    """Return what two pairs of fractions have across."""
    return ratio_difference(ratio_product(one[0], other[1]), ratio_product(one[1], other[0]))


def fractions_by(cutting, values):
    """Return the frieze by values that are known to be such."""
    sides, cuts = cutting
    spans = {(corner, corner + 1): (1, 1) for corner in range(sides - 1)}
    spans[(0, sides - 1)] = (1, 1)
    for cut, value in zip(cuts, values):
        spans[cut] = (value, 1)
    arrows = corner_arrows(cutting, spans)
    corners = range(sides)
    return tuple([
        tuple([across(arrows[min(one, other)], arrows[max(one, other)]) for other in corners]) for one in corners
    ])


def frieze_by(cutting, values):
    """Return the frieze by values."""
    need_cutting(cutting)
    need_values(cutting, values)
    need_few(cutting[0], MOST_SIDES_BY_VALUES)
    return fractions_by(cutting, values)


def fraction_by(cutting, values, first, last):
    """Return what the frieze by values has for two corners."""
    need_cutting(cutting)
    need_values(cutting, values)
    if not all([is_between(corner, 0, cutting[0] - 1) for corner in (first, last)]):
        raise InvalidCorners("two corners of the cutting are needed")
    need_few(cutting[0], MOST_SIDES_BY_VALUES)
    return fractions_by(cutting, values)[first][last]


def is_frieze_by(cutting, values, value):
    """Return whether any value is the frieze by values."""
    need_cutting(cutting)
    need_values(cutting, values)
    need_few(cutting[0], MOST_SIDES_BY_VALUES)
    return is_same(value, fractions_by(cutting, values))


def is_whole_by(cutting, values):
    """Return whether all fractions of the frieze by values are integers."""
    need_cutting(cutting)
    need_values(cutting, values)
    need_few(cutting[0], MOST_SIDES_BY_VALUES)
    return all([below == 1 for fractions in fractions_by(cutting, values) for _, below in fractions])
