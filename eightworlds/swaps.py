"""Great swaps of points, their stairs and their parkings."""

from eightworlds.basics import are_between, are_ints, need_few
from eightworlds.errors import InvalidParking, InvalidStair, InvalidSwaps
from eightworlds.partings import (
    MOST_POINTS, is_parting, lies_within, many_points, need_points, parting_by_rounds
)

MOST_POINTS_LISTED = 5


def are_swaps(points, value):
    """Return whether any value is swaps of so many points, one fewer than these."""
    if not isinstance(value, tuple) or len(value) != points - 1 or not all([are_ints(swap, 2) for swap in value]):
        return False
    return all([0 <= low < high < points for low, high in value])


def places_along(points, swaps):
    """Return the list of the tuples of the places of all points, behind no swap, one, and so on up to all."""
    places = tuple(range(points))
    along = [places]
    for low, high in swaps:
        places = places[:low] + (places[high],) + places[low + 1:high] + (places[low],) + places[high + 1:]
        along.append(places)
    return along


def fit_swaps(points, value):
    """Return whether any value is great swaps of what is known to be a number of points."""
    if not are_swaps(points, value):
        return False
    return places_along(points, value)[-1] == tuple([(point + 1) % points for point in range(points)])


def need_swaps(points, value):
    """Raise InvalidSwaps for what is no great swaps of so many points."""
    if not fit_swaps(points, value):
        raise InvalidSwaps("great swaps of so many points are needed")


def are_great(points, value):
    """Return whether any value is great swaps of so many points."""
    need_points(points)
    return fit_swaps(points, value)


def stair_of(points, swaps):
    """Return the stair of great swaps."""
    need_points(points)
    need_swaps(points, swaps)
    return tuple([parting_by_rounds(places) for places in places_along(points, swaps)])


def is_stair(value):
    """Return whether any value is a stair."""
    if not isinstance(value, tuple) or not 1 <= len(value) <= MOST_POINTS:
        return False
    if not all([is_parting(parting) and many_points(parting) == len(value) for parting in value]):
        return False
    # With one block fewer, and those ahead within its own, a parting has just two of them as one.
    if [len(parting) for parting in value] != list(range(len(value), 0, -1)):
        return False
    return all([lies_within(ahead, behind) for ahead, behind in zip(value, value[1:])])


def swap_between(ahead, behind):
    """Return the swap by which two blocks of a parting become one block of the next parting of a stair."""
    one, other = [block for block in ahead if block not in behind]
    # Going round in the new block, the latter one lies between two neighbours of the former one.
    return (max([point for point in one if point < other[0]]), other[-1])


def swaps_of(stair):
    """Return the great swaps whose stair it is."""
    if not is_stair(stair):
        raise InvalidStair("a stair is needed")
    return tuple([swap_between(ahead, behind) for ahead, behind in zip(stair, stair[1:])])


def parking_of(points, swaps):
    """Return the parking of great swaps."""
    need_points(points)
    need_swaps(points, swaps)
    return tuple([low for low, _ in swaps])


def is_parking(points, value):
    """Return whether any value is a parking of what is known to be a number of points."""
    if not are_between(value, 0, points - 2) or len(value) != points - 1:
        return False
    return all([number <= at for at, number in enumerate(sorted(value))])


def points_parted(block, low, parking):
    """Return the points that a swap with this lesser point has brought into a block, behind some with a parking."""
    found = []
    free = 0
    # So many points on their own have been joined by one swap fewer; these have their lesser points among them.
    for point in block[block.index(low) + 1:]:
        found.append(point)
        free = free + 1 - parking.count(point)
        if free > 0:
            break
    return tuple(found)


def swaps_by_parking(points, parking):
    """Return the great swaps with what is known to be a parking."""
    blocks = [tuple(range(points))]
    swaps = []
    # The last swap has joined all points; what each one has joined shows how the one ahead of it did.
    for at, low in reversed(list(enumerate(parking))):
        block = [some for some in blocks if low in some][0]
        added = points_parted(block, low, parking[:at])
        rest = tuple([point for point in block if point not in added])
        blocks = [other for other in blocks if other != block] + [rest, added]
        swaps.append((low, added[-1]))
    return tuple(swaps[::-1])


def swaps_for(points, parking):
    """Return the great swaps whose parking it is."""
    need_points(points)
    if not is_parking(points, parking):
        raise InvalidParking("a parking of so many points is needed")
    return swaps_by_parking(points, parking)


def great_swaps(points):
    """Return the ascending list of all great swaps of so many points."""
    need_points(points)
    need_few(points, MOST_POINTS_LISTED)
    numbers = [()]
    for _ in range(points - 1):
        numbers = [some + (number,) for some in numbers for number in range(points - 1)]
    return sorted([swaps_by_parking(points, some) for some in numbers if is_parking(points, some)])
