"""Partings and great swaps counted, and partings numbered."""

from math import comb, factorial

from eightworlds.basics import is_between, is_int, need_number
from eightworlds.errors import InvalidBlocks, InvalidPoints
from eightworlds.listing import cutting_numbered, number_of, ways_of_forks
from eightworlds.overs import parting_cutting
from eightworlds.partings import need_points, parting_by_corners

MOST_POINTS_COUNTED = 1000
MOST_BLOCKS = 90


def need_many_points(value):
    """Raise InvalidPoints for what is no number of points up to another bound."""
    if not is_between(value, 1, MOST_POINTS_COUNTED):
        raise InvalidPoints(f"an integer from 1 to {MOST_POINTS_COUNTED} is needed")


def count_partings(points):
    """Return how many partings of so many points there are."""
    need_many_points(points)
    return ways_of_forks(points)


def count_blocks(points, blocks):
    """Return how many partings of so many points have so many blocks."""
    need_many_points(points)
    need_number(blocks, 1, points)
    return comb(points, blocks) * comb(points, blocks - 1) // points


def are_sizes(points, value):
    """Return whether any value is a tuple of sizes that come to so many points."""
    if not isinstance(value, tuple) or not 1 <= len(value) <= MOST_BLOCKS:
        return False
    return all([is_int(size) and size > 0 for size in value]) and sum(value) == points


def count_sized(points, sizes):
    """Return how many partings of so many points have blocks of just these sizes."""
    need_many_points(points)
    if not are_sizes(points, sizes):
        raise InvalidBlocks(f"a tuple of 1 to {MOST_BLOCKS} integers from 1 on that come to the points is needed")
    below = factorial(points + 1 - len(sizes))
    for size in sorted(set(sizes)):
        below = below * factorial(sizes.count(size))
    return factorial(points) // below


def count_rising(points, many):
    """Return how many tuples of so many partings there are, each one finer than the next one, or the same."""
    need_many_points(points)
    need_number(many, 1, 1000)
    return comb((many + 1) * points, points - 1) // points


def count_great(points):
    """Return how many great swaps of so many points there are."""
    need_many_points(points)
    number = 1
    for _ in range(points - 2):
        number = number * points
    return number


def parting_number(parting):
    """Return the number of the cutting whose parting it is."""
    return number_of(parting_cutting(parting))


def parting_with(points, number):
    """Return the parting of so many points with a number."""
    need_points(points)
    need_number(number, 0, ways_of_forks(points) - 1)
    return parting_by_corners(cutting_numbered(points + 2, number), 2)
