"""Overs of partings, and partings of cuttings."""

from eightworlds.basics import need_number
from eightworlds.exchanges import cut_behind, exchanged
from eightworlds.partings import (
    many_points, need_parting, over_by_blocks, parting_by_corners, under_by_blocks
)
from eightworlds.polygons import need_cut, need_cutting


def over(parting):
    """Return the over of a parting."""
    need_parting(parting)
    return over_by_blocks(parting)


def under(parting):
    """Return the parting whose over it is."""
    need_parting(parting)
    return under_by_blocks(parting)


def points_moved(parting, sign, steps):
    """Return a parting in which each point, taken times a sign, gets a number greater by some steps, going round."""
    many = many_points(parting)
    return tuple(sorted([tuple(sorted([(sign * point + steps) % many for point in block])) for block in parting]))


def turned_points(parting, steps):
    """Return a parting in which each point has got a number greater by so many steps."""
    need_parting(parting)
    need_number(steps, -1000, 1000)
    return points_moved(parting, 1, steps)


def mirrored_points(parting):
    """Return a parting in which each point has got the number that it is away from the last one."""
    need_parting(parting)
    return points_moved(parting, -1, -1)


def parting_of(cutting):
    """Return the parting of a cutting."""
    need_cutting(cutting)
    return parting_by_corners(cutting, 2)


def cuts_by_blocks(parting):
    """Return the list of the cuts of the cutting whose parting it is, and of the side of the first and last corner."""
    lows = {many_points(parting) + 1: 0}
    cuts = []
    for last_point, block in sorted([(block[-1], block) for block in parting], reverse=True):
        # All pieces of a block have the corner behind that of its last point, and above each lies the next one.
        high = last_point + 2
        corners = [lows[high]] + [point + 1 for point in block]
        for low, middle in zip(corners, corners[1:]):
            lows[middle] = low
            cuts.append((low, high))
    return cuts


def parting_cutting(parting):
    """Return the cutting whose parting it is."""
    need_parting(parting)
    sides = many_points(parting) + 2
    return (sides, tuple(sorted([cut for cut in cuts_by_blocks(parting) if cut != (0, sides - 1)])))


def by_least(cutting):
    """Return the parting that has in one block the points whose pieces have the same least corner."""
    need_cutting(cutting)
    return parting_by_corners(cutting, 0)


def moved_point(cutting, cut):
    """Return the point that leaves its block if a cut is exchanged, and the least point of its block then."""
    need_cutting(cutting)
    need_cut(cutting, cut)
    point = sorted(cut + cut_behind(cutting, cut))[1] - 1
    blocks = parting_by_corners(exchanged(cutting, cut), 2)
    return (point, [block[0] for block in blocks if point in block][0])
