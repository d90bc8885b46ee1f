"""Ways of exchanges, and ways by a fan."""

from eightworlds.errors import InvalidWay, Unlike
from eightworlds.exchanges import cut_behind, cuttings_along, fan_way
from eightworlds.polygons import need_corner, need_cutting
from eightworlds.turning import moved

MOST_CUTS = 80


def need_both(one, other):
    """Raise InvalidCutting for what is no cutting, and Unlike for cuttings of which one has more sides."""
    need_cutting(one)
    need_cutting(other)
    if one[0] != other[0]:
        raise Unlike("two cuttings with as many sides are needed")


def along_way(cutting, value):
    """Return the cuttings along a way, the first one too, and raise InvalidWay for what is none."""
    along = cuttings_along(cutting, value, MOST_CUTS)
    if along is None:
        raise InvalidWay(f"a way of at most {MOST_CUTS} cuts from the cutting is needed")
    return along


def behind_way(cutting, way):
    """Return the cutting behind a way."""
    need_cutting(cutting)
    return along_way(cutting, way)[-1]


def way_back(cutting, way):
    """Return the way that takes a way back, exchange by exchange."""
    need_cutting(cutting)
    new = [cut_behind(ahead, cut) for ahead, cut in zip(along_way(cutting, way), way)]
    return tuple(new[::-1])


def is_way_to(one, other, value):
    """Return whether any value is a way from the one cutting to the other one."""
    need_both(one, other)
    along = cuttings_along(one, value, MOST_CUTS)
    return along is not None and along[-1] == other


def far_from_fan(cutting, corner):
    """Return how many exchanges are needed to the fan of a corner."""
    need_cutting(cutting)
    need_corner(cutting[0], corner)
    return len([cut for cut in cutting[1] if corner not in cut])


def way_to_fan(cutting, corner):
    """Return a way to the fan of a corner, with as few exchanges as can be."""
    sides = cutting[0]
    ends = [((low + corner) % sides, (high + corner) % sides) for low, high in fan_way(moved(cutting, 1, -corner))]
    return tuple([(min(pair), max(pair)) for pair in ends])


def way_by_fan(one, other, corner):
    """Return a way from the one cutting to the other one by the fan of a corner, with as few exchanges as can be."""
    need_both(one, other)
    need_corner(one[0], corner)
    return way_to_fan(one, corner) + way_back(other, way_to_fan(other, corner))
