"""Loose cuttings counted and listed, and sums over the weights of their plates."""

from math import comb, factorial

from eightworlds.basics import are_between, is_int, need_few
from eightworlds.errors import InvalidCounts, InvalidNumber, InvalidWorths
from eightworlds.listing import need_many_sides
from eightworlds.loose import ways_to_cut
from eightworlds.polygons import crosses

MOST_SIDES_COUNTED = 200
MOST_SIZES = 38
MOST_PLATES = 200
MOST_WEIGHT = 10 ** 6
MOST_SIDES_LISTED = 8


def need_not_negative(value):
    """Raise InvalidNumber for what is no integer from 0 on."""
    if not is_int(value) or value < 0:
        raise InvalidNumber("an integer from 0 on is needed")


def loose_with(sides, many):
    """Return how many loose cuttings with so many cuts a polygon has."""
    return ways_to_cut(sides, many) if 0 <= many <= sides - 3 else 0


def count_loose(sides, many):
    """Return how many loose cuttings with so many cuts a polygon has."""
    need_many_sides(sides, MOST_SIDES_COUNTED)
    need_not_negative(many)
    return loose_with(sides, many)


def turned_counts(sides):
    """Return the turned counts of a polygon."""
    need_many_sides(sides, MOST_SIDES_COUNTED)
    forks = sides - 2
    return tuple([comb(forks, at) * comb(forks, at + 1) // forks for at in range(forks)])


def count_with_plates(sides, counts):
    """Return how many loose cuttings of a polygon have these plate counts."""
    need_many_sides(sides, MOST_SIDES_COUNTED)
    if not are_between(counts, 0, MOST_PLATES) or len(counts) > MOST_SIZES:
        raise InvalidCounts(f"a tuple of at most {MOST_SIZES} integers from 0 to {MOST_PLATES} is needed")
    if sum([at * many for at, many in enumerate(counts, start=1)]) != sides - 2:
        return 0
    # Seen from one side, it is a tree with a leaf for each other side, and a fork of its own kind for each plate.
    below = factorial(sides - 1)
    for many in counts:
        below = below * factorial(many)
    return factorial(sides - 2 + sum(counts)) // below


def loose_cuttings(sides, many):
    """Return the ascending list of all loose cuttings of a polygon with so many cuts."""
    need_many_sides(sides, MOST_SIDES_COUNTED)
    need_not_negative(many)
    need_few(sides, MOST_SIDES_LISTED)
    known = [(low, high) for low in range(sides) for high in range(low + 2, sides) if high - low < sides - 1]
    found = [()]
    for _ in range(min(many, sides - 2)):
        found = [
            cuts + (cut,) for cuts in found for cut in known
            if (not cuts or cuts[-1] < cut) and not any([crosses(cut, other) for other in cuts])
        ]
    return [(sides, cuts) for cuts in found]


def plate_sums(weights):
    """Return the plate sums of weights of plates."""
    if not are_between(weights, -MOST_WEIGHT, MOST_WEIGHT) or not 1 <= len(weights) <= MOST_SIZES:
        raise InvalidWorths(f"a tuple of 1 to {MOST_SIZES} integers up to {MOST_WEIGHT}, or below nought, is needed")
    # For rows of so many polygons along the further sides of a plate, by how many sides of their own these have:
    # the sum of the worths of all that can lie above them. A row of one side alone has the worth 1.
    rows = [[0, 1]] + [[0, 0] for _ in weights]
    for total in range(2, len(weights) + 2):
        for many in range(1, len(rows)):
            row = rows[many]
            ahead = rows[many - 1]
            row.append(sum([rows[0][own] * ahead[total - own] for own in range(1, total)]))
        rows[0].append(sum([weight * row[total] for weight, row in zip(weights, rows[1:])]))
    return tuple(rows[0][2:])
