"""Passes of great swaps, which lead from each to each other one."""

from eightworlds.basics import distances_by, is_between, need_few
from eightworlds.errors import InvalidIndex
from eightworlds.partings import need_points
from eightworlds.swaps import need_swaps

MOST_POINTS_PASSED = 5


def need_index(swaps, value):
    """Raise InvalidIndex for what is no index of a swap that is not the last one."""
    if not is_between(value, 0, len(swaps) - 2):
        raise InvalidIndex("the index of a swap that is not the last one is needed")


def swap_beside(swap, other):
    """Return a swap in which a point that another swap has has given way to the other one's other point."""
    low, high = other
    ends = [high if point == low else low if point == high else point for point in swap]
    return (min(ends), max(ends))


def swaps_passed(swaps, index):
    """Return great swaps behind a pass at what is known to be an index."""
    one, other = swaps[index:index + 2]
    return swaps[:index] + (other, swap_beside(one, other)) + swaps[index + 2:]


def swaps_passed_back(swaps, index):
    """Return the great swaps of which these come by a pass at what is known to be an index."""
    other, behind = swaps[index:index + 2]
    # The pass has changed the point that it found in the other swap; changing it again leads back.
    return swaps[:index] + (swap_beside(behind, other), other) + swaps[index + 2:]


def passed(points, swaps, index):
    """Return great swaps behind a pass."""
    need_points(points)
    need_swaps(points, swaps)
    need_index(swaps, index)
    return swaps_passed(swaps, index)


def passed_back(points, swaps, index):
    """Return the great swaps of which these come by a pass."""
    need_points(points)
    need_swaps(points, swaps)
    need_index(swaps, index)
    return swaps_passed_back(swaps, index)


def all_passed_back(swaps):
    """Return the list of all great swaps of which these come by one pass."""
    return [swaps_passed_back(swaps, index) for index in range(len(swaps) - 1)]


def passes_to(points, swaps, aim):
    """Return as few indices as can be whose passes, one after another, lead from great swaps to others."""
    need_points(points)
    need_swaps(points, swaps)
    need_swaps(points, aim)
    need_few(points, MOST_POINTS_PASSED)
    far = distances_by(aim, all_passed_back)
    found = []
    while swaps != aim:
        index = [at for at in range(points - 2) if far[swaps_passed(swaps, at)] < far[swaps]][0]
        found.append(index)
        swaps = swaps_passed(swaps, index)
    return tuple(found)
