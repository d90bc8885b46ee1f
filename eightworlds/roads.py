"""Roads of fractions, each mark the middle of its neighbours."""

from eightworlds.basics import are_between, is_between, is_fraction, need_few
from eightworlds.chains import minus_items
from eightworlds.errors import InvalidFraction, InvalidMark, InvalidPlace, InvalidRoad
from eightworlds.polygons import MOST_SIDES, need_cutting, pieces_down

MOST_IN_MARK = 10 ** 30


def across_marks(one, other):
    """Return the product of the former mark's below and the latter one's top, less the other one."""
    return one[1] * other[0] - one[0] * other[1]


def middle(one, other):
    """Return the mark of both tops, added, and both belows, added."""
    return (one[0] + other[0], one[1] + other[1])


def road_of(cutting):
    """Return the road whose counts are those of a cutting."""
    need_cutting(cutting)
    end = cutting[0] - 1
    marks = {0: (0, 1), end: (1, 0)}
    for low, between, high in pieces_down(cutting):
        marks[between] = middle(marks[low], marks[high])
    return tuple([marks[corner] for corner in range(cutting[0])])


def is_pair_of_mark(value):
    """Return whether any value is a pair of integers as a mark may have."""
    return are_between(value, 0, MOST_IN_MARK) and len(value) == 2


def is_road(value):
    """Return whether any value is a road."""
    if not isinstance(value, tuple) or not 3 <= len(value) <= MOST_SIDES:
        return False
    if not all([is_pair_of_mark(mark) for mark in value]) or value[0] != (0, 1) or value[-1] != (1, 0):
        return False
    # Marks that are near have no common divisors.
    return all([across_marks(one, other) == 1 for one, other in zip(value, value[1:])])


def need_road(value):
    """Raise InvalidRoad for what is no road."""
    if not is_road(value):
        raise InvalidRoad("a road is needed")


def road_cutting(value):
    """Return the cutting whose road is given."""
    need_road(value)
    sides = len(value)
    cuts = [(low, high) for low in range(sides) for high in range(low + 2, sides) if high - low < sides - 1]
    return (sides, tuple([(low, high) for low, high in cuts if across_marks(value[low], value[high]) == 1]))


def middle_of(one, other):
    """Return the mark in the middle of two marks that are near."""
    if not is_pair_of_mark(one) or not is_pair_of_mark(other) or abs(across_marks(one, other)) != 1:
        raise InvalidMark("two marks that are near are needed")
    return middle(one, other)


def road_with(value, place):
    """Return a road with the middle of the mark at a place and the next one between them."""
    need_road(value)
    if not is_between(place, 0, len(value) - 2):
        raise InvalidPlace("the place of a mark but the last one is needed")
    need_few(len(value) + 1, MOST_SIDES)
    return value[:place + 1] + (middle(value[place], value[place + 1]),) + value[place + 1:]


def marks_above(fraction):
    """Return the list of the marks of the shortest road above a fraction, descending to it, at most 40 of them."""
    marks = [(0, -1), (1, 0)]
    for item in minus_items(fraction, MOST_SIDES - 1):
        marks.append((item * marks[-1][0] - marks[-2][0], item * marks[-1][1] - marks[-2][1]))
    return marks[1:]


def road_to(fraction):
    """Return the shortest road that has a fraction."""
    if not is_fraction(fraction) or not 1 <= fraction[0] <= 10 ** 6 or fraction[1] > 10 ** 6:
        raise InvalidFraction("a fraction above nought is needed, its top and its below at most 10 ** 6")
    above = marks_above(fraction)
    # Turned over, what is below a fraction is above it.
    below = [(top, under) for under, top in marks_above((fraction[1], fraction[0]))]
    road = below + above[::-1][1:]
    need_few(len(road), MOST_SIDES)
    return tuple(road)
