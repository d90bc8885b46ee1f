"""Polygons, their cuttings, and the pieces of these."""

from eightworlds.basics import are_ints, is_ascending, is_between
from eightworlds.errors import InvalidCorner, InvalidCut, InvalidCutting, InvalidSides

MOST_SIDES = 40


def is_cut_within(sides, value):
    """Return whether any value is a cut of the polygon with so many sides."""
    if not are_ints(value, 2):
        return False
    low, high = value
    return 0 <= low and low + 2 <= high < sides and high - low < sides - 1


def crosses(one, other):
    """Return whether an ascending pair of corners crosses another one."""
    return one[0] < other[0] < one[1] < other[1] or other[0] < one[0] < other[1] < one[1]


def are_free_cuts(sides, value):
    """Return whether any value is an ascending tuple of cuts of a polygon that do not cross."""
    # There is no room for more cuts; so a long tuple is not looked at pair by pair.
    if not isinstance(value, tuple) or len(value) > sides - 3:
        return False
    if not all([is_cut_within(sides, cut) for cut in value]) or not is_ascending(value):
        return False
    return not any([crosses(one, other) for at, one in enumerate(value) for other in value[at + 1:]])


def is_cutting(value):
    """Return whether any value is a cutting."""
    if not isinstance(value, tuple) or len(value) != 2 or not is_between(value[0], 3, MOST_SIDES):
        return False
    sides, cuts = value
    return are_free_cuts(sides, cuts) and len(cuts) == sides - 3


def need_cutting(value):
    """Raise InvalidCutting for what is no cutting."""
    if not is_cutting(value):
        raise InvalidCutting("a cutting is needed")


def need_sides(value):
    """Raise InvalidSides for what is no number of sides."""
    if not is_between(value, 3, MOST_SIDES):
        raise InvalidSides(f"an integer from 3 to {MOST_SIDES} is needed")


def need_cut(cutting, value):
    """Raise InvalidCut for what is no cut of a cutting."""
    if not are_ints(value, 2) or value not in cutting[1]:
        raise InvalidCut("a cut of the cutting is needed")


def need_corner(sides, value):
    """Raise InvalidCorner for what is no corner of the polygon with so many sides."""
    if not is_between(value, 0, sides - 1):
        raise InvalidCorner("a corner of the polygon is needed")


def part_over(base, ends):
    """Return the part above a base, from the ascending greater ends that each corner has."""
    first, last = base
    corners = [first, max([end for end in ends[first] if end < last])]
    while corners[-1] < last:
        # No tie leads out across the base; so the farthest one stays within.
        corners.append(ends[corners[-1]][-1])
    return tuple(corners)


def parts(sides, cuts):
    """Return the ascending list of the parts into which cuts that do not cross cut a polygon."""
    ends = [[corner + 1] + [high for low, high in cuts if low == corner] for corner in range(sides - 1)]
    bases = [(0, sides - 1)] + list(cuts)
    return sorted([part_over(base, ends) for base in bases])


def pieces(cutting):
    """Return the ascending list of all pieces of a cutting."""
    need_cutting(cutting)
    return parts(cutting[0], cutting[1])


def pieces_down(cutting):
    """Return the list of all pieces of what is known to be a cutting, each one behind that across its base."""
    # The piece across a base spans more corners; so the widest ones come first.
    wide = sorted([(low - high, low, middle, high) for low, middle, high in parts(cutting[0], cutting[1])])
    return [(low, middle, high) for _, low, middle, high in wide]


def ties(cutting):
    """Return the ascending list of all ties of a cutting."""
    need_cutting(cutting)
    sides, cuts = cutting
    return sorted([(corner, corner + 1) for corner in range(sides - 1)] + [(0, sides - 1)] + list(cuts))


def counts_by_cuts(sides, cuts):
    """Return how many parts each corner has, of those into which cuts that do not cross cut a polygon."""
    return tuple([1 + len([cut for cut in cuts if corner in cut]) for corner in range(sides)])


def counts_at(cutting):
    """Return the tuple of how many pieces each corner has."""
    need_cutting(cutting)
    return counts_by_cuts(cutting[0], cutting[1])


def ears(cutting):
    """Return the ascending list of all corners with one piece alone."""
    return [corner for corner, many in enumerate(counts_at(cutting)) if many == 1]


def do_cross(sides, one_cut, other_cut):
    """Return whether two cuts of a polygon cross."""
    need_sides(sides)
    if not is_cut_within(sides, one_cut) or not is_cut_within(sides, other_cut):
        raise InvalidCut("two cuts of the polygon are needed")
    return crosses(one_cut, other_cut)
