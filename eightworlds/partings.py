"""Partings of points: their order, and their signed numbers."""

from eightworlds.basics import are_between, is_ascending, is_between, need_few
from eightworlds.errors import InvalidParting, InvalidPoints, Unlike
from eightworlds.listing import cutting_numbered, ways_of_forks
from eightworlds.polygons import crosses, parts

MOST_POINTS = 38
MOST_POINTS_LISTED = 8


def is_block(value):
    """Return whether any value is an ascending tuple of one point or more."""
    return are_between(value, 0, MOST_POINTS - 1) and len(value) > 0 and is_ascending(value)


def is_parting(value):
    """Return whether any value is a parting."""
    if not isinstance(value, tuple) or not 1 <= len(value) <= MOST_POINTS:
        return False
    if not all([is_block(block) for block in value]):
        return False
    numbers = sorted([point for block in value for point in block])
    if not is_ascending(value) or numbers != list(range(len(numbers))):
        return False
    # Blocks cross just if two points of the one, one behind another, and two of the other one do.
    pairs = [pair for block in value for pair in zip(block, block[1:])]
    return not any([crosses(one, other) for at, one in enumerate(pairs) for other in pairs[at + 1:]])


def need_parting(value):
    """Raise InvalidParting for what is no parting."""
    if not is_parting(value):
        raise InvalidParting("a parting is needed")


def many_points(parting):
    """Return of how many points a parting is."""
    return sum([len(block) for block in parting])


def need_partings(fine, coarse):
    """Raise InvalidParting for what is no parting, and Unlike for partings of which one has more points."""
    need_parting(fine)
    need_parting(coarse)
    if many_points(fine) != many_points(coarse):
        raise Unlike("two partings of as many points are needed")


def need_points(value):
    """Raise InvalidPoints for what is no number of points."""
    if not is_between(value, 1, MOST_POINTS):
        raise InvalidPoints(f"an integer from 1 to {MOST_POINTS} is needed")


def parting_by(keys):
    """Return the blocks of points with the same keys, of which there is one for each point."""
    blocks = {}
    for point, key in enumerate(keys):
        blocks[key] = blocks.get(key, ()) + (point,)
    return tuple(sorted(blocks.values()))


def blocks_at(parting):
    """Return the list of the indices of the blocks in which the points are."""
    found = {point: at for at, block in enumerate(parting) for point in block}
    return [found[point] for point in range(len(found))]


def parting_by_rounds(goes):
    """Return the blocks of points that come of one another, if each goes to the one that is told for it."""
    keys = [None for _ in goes]
    for point in range(len(goes)):
        here = point
        while keys[here] is None:
            keys[here] = point
            here = goes[here]
    return parting_by(keys)


def over_by_blocks(parting):
    """Return the over of what is known to be a parting."""
    # No block has points of both sides of what goes from a point to the one ahead of it in its block.
    many = many_points(parting)
    goes = {point: (ahead + 1) % many for block in parting for point, ahead in zip(block, block[-1:] + block)}
    return parting_by_rounds([goes[point] for point in range(many)])


def under_by_blocks(parting):
    """Return the parting whose over is what is known to be a parting."""
    many = many_points(parting)
    goes = {point: (behind - 1) % many for block in parting for point, behind in zip(block, block[1:] + block)}
    return parting_by_rounds([goes[point] for point in range(many)])


def parting_by_corners(cutting, place):
    """Return the parting of the points whose pieces have the same corner at a place, of a cutting known to be one."""
    keys = {piece[1]: piece[place] for piece in parts(cutting[0], cutting[1])}
    return parting_by([keys[corner] for corner in range(1, cutting[0] - 1)])


def partings(points):
    """Return the ascending list of all partings of so many points."""
    need_points(points)
    need_few(points, MOST_POINTS_LISTED)
    sides = points + 2
    numbers = range(ways_of_forks(points))
    return sorted([parting_by_corners(cutting_numbered(sides, number), 2) for number in numbers])


def lies_within(fine, coarse):
    """Return whether of two partings of as many points the one is finer than the other one, or the same."""
    homes = blocks_at(coarse)
    return all([homes[point] == homes[block[0]] for block in fine for point in block])


def is_finer(fine, coarse):
    """Return whether the one parting is finer than the other one, or the same."""
    need_partings(fine, coarse)
    return lies_within(fine, coarse)


def parting_met(fine, coarse):
    """Return the meet of what are known to be two partings of as many points."""
    return parting_by(list(zip(blocks_at(fine), blocks_at(coarse))))


def meet_of(fine, coarse):
    """Return the meet of two partings."""
    need_partings(fine, coarse)
    return parting_met(fine, coarse)


def join_of(fine, coarse):
    """Return the join of two partings."""
    need_partings(fine, coarse)
    # The over turns the order about.
    return under_by_blocks(parting_met(over_by_blocks(fine), over_by_blocks(coarse)))


def partings_between(fine, coarse):
    """Return the ascending list of all partings between two partings, these too."""
    need_partings(fine, coarse)
    some = partings(many_points(fine))
    return [parting for parting in some if lies_within(fine, parting) and lies_within(parting, coarse)]


def signed_of_block(points):
    """Return the signed number of so many single points and their one block."""
    number = ways_of_forks(points - 1)
    return number if points % 2 == 1 else -number


def signed_number(fine, coarse):
    """Return the signed number of two partings."""
    need_partings(fine, coarse)
    if not lies_within(fine, coarse):
        return 0
    number = 1
    for block in coarse:
        within = tuple([tuple([block.index(point) for point in part]) for part in fine if part[0] in block])
        # What lies between some blocks and one is like what lies between single points and the over of the blocks.
        for points in over_by_blocks(within):
            number = number * signed_of_block(len(points))
    return number
