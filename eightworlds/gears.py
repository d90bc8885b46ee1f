"""Gears of rows, and the threefold cuttings by which rows come round."""

from eightworlds.basics import is_between, need_few, need_number
from eightworlds.errors import InvalidSign, InvalidThreefold
from eightworlds.polygons import are_free_cuts, counts_by_cuts, need_sides, parts
from eightworlds.rows import need_row

MOST_THREEFOLD_SIDES = 9


def product_of_gears(row):
    """Return the product of the gears of a tuple of integers."""
    product = ((1, 0), (0, 1))
    for item in row:
        product = tuple([(one * item + other, -one) for one, other in product])
    return product


def gear_product(row):
    """Return the product of the gears of a row."""
    need_row(row)
    return product_of_gears(row)


def sign_round(row):
    """Return 1 or -1, with which a tuple of integers comes round, or None."""
    product = product_of_gears(row)
    if product == ((1, 0), (0, 1)):
        return 1
    return -1 if product == ((-1, 0), (0, -1)) else None


def comes_round(row):
    """Return 1 or -1, with which a row comes round, or None."""
    need_row(row)
    return sign_round(row)


def are_threefold(sides, value):
    """Return whether any value is a threefold cutting of so many sides, these being known to fit."""
    return are_free_cuts(sides, value) and all([len(part) % 3 == 0 for part in parts(sides, value)])


def is_threefold(sides, value):
    """Return whether any value is a threefold cutting of so many sides."""
    need_sides(sides)
    return are_threefold(sides, value)


def fillings(low, high):
    """Return the list of all cuts, base included, that cut the corners over a base into threefold pieces."""
    if high == low + 1:
        return [()]
    # The base is one more step, behind which the steps around the piece come to a multiple of three.
    return [((low, high),) + cuts for cuts in walks(low, high, 2)]


def walks(low, high, rest):
    """Return the list of all cuts of walks up from a corner to another one, as many steps as leave a rest by three."""
    if low == high:
        return [()] if rest == 0 else []
    found = []
    for corner in range(low + 1, high + 1):
        onward = walks(corner, high, (rest - 1) % 3)
        # The base itself is looked at only where it can be a step; otherwise it would be so without end.
        steps = fillings(low, corner) if onward else []
        found.extend([cuts + others for cuts in steps for others in onward])
    return found


def all_threefolds(sides):
    """Return the ascending list of all threefold cuttings of so many sides."""
    return sorted([tuple(sorted(cuts)) for cuts in walks(0, sides - 1, 2)])


def threefolds(sides):
    """Return the ascending list of all threefold cuttings of so many sides."""
    need_sides(sides)
    need_few(sides, MOST_THREEFOLD_SIDES)
    return all_threefolds(sides)


def threefold_counts(sides, value):
    """Return of how many pieces of a threefold cutting each corner is one."""
    need_sides(sides)
    if not are_threefold(sides, value):
        raise InvalidThreefold("a threefold cutting of so many sides is needed")
    return counts_by_cuts(sides, value)


def threefold_of(row):
    """Return a threefold cutting whose counts a row is, or None."""
    need_row(row)
    need_few(len(row), MOST_THREEFOLD_SIDES)
    for cuts in all_threefolds(len(row)):
        if counts_by_cuts(len(row), cuts) == row:
            return cuts
    return None


def rows_round(many, sign):
    """Return the ascending list of all rows of so many integers from 1 on that come round with a sign."""
    need_number(many, 3, 8)
    if not is_between(sign, -1, 1) or sign == 0:
        raise InvalidSign("1 or -1 is needed")
    # These rows are just the counts of threefold cuttings.
    rows = sorted([counts_by_cuts(many, cuts) for cuts in all_threefolds(many)])
    unlike = [row for at, row in enumerate(rows) if at == 0 or row != rows[at - 1]]
    return [row for row in unlike if sign_round(row) == sign]
