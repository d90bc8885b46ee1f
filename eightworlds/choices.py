"""Choices of pieces for the corners between two corners."""

from eightworlds.basics import are_ints, is_int, need_few
from eightworlds.errors import InvalidCorners
from eightworlds.friezes import row_number
from eightworlds.polygons import counts_at, need_cutting, pieces


def need_corners(cutting, first, last):
    """Raise InvalidCorners for what are no two corners, the first one the lesser one."""
    if not is_int(first) or not is_int(last) or not 0 <= first < last < cutting[0]:
        raise InvalidCorners("two corners are needed, the first one the lesser one")


def piece_choices(cutting, first, last):
    """Return the ascending list of all choices for two corners."""
    need_cutting(cutting)
    need_corners(cutting, first, last)
    need_few(cutting[0], 9)
    known = pieces(cutting)
    found = [()]
    for corner in range(first + 1, last):
        around = [piece for piece in known if corner in piece]
        found = [choice + (piece,) for choice in found for piece in around if piece not in choice]
    return found


def count_choices(cutting, first, last):
    """Return how many choices there are for two corners."""
    need_cutting(cutting)
    need_corners(cutting, first, last)
    return row_number(counts_at(cutting), first, last - first)


def is_choice(cutting, first, last, value):
    """Return whether any value is a choice for two corners."""
    need_cutting(cutting)
    need_corners(cutting, first, last)
    if not isinstance(value, tuple) or len(value) != last - first - 1:
        return False
    if not all([are_ints(piece, 3) for piece in value]):
        return False
    known = pieces(cutting)
    fit = [piece in known and corner in piece for corner, piece in enumerate(value, start=first + 1)]
    return all(fit) and len(set(value)) == len(value)
