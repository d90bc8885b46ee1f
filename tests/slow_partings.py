"""Partings and great swaps, found in slow ways that are easy to believe."""

from itertools import combinations, product


def all_ways_to_part(points):
    """All ways to put points into blocks, be they crossing or not."""
    if not points:
        return [[]]
    found = []
    for rest in all_ways_to_part(points[:-1]):
        found.append(rest + [points[-1:]])
        found += [rest[:at] + [block + points[-1:]] + rest[at + 1:] for at, block in enumerate(rest)]
    return found


def is_crossing(blocks):
    """Whether two blocks cross, by the words of the document."""
    for one, other in combinations(blocks, 2):
        for mine, yours in ((one, other), (other, one)):
            if any(a < b < c < d for a, c in combinations(mine, 2) for b, d in combinations(yours, 2)):
                return True
    return False


def all_partings(points):
    """All partings of so many points, ascending."""
    found = all_ways_to_part(tuple(range(points)))
    return sorted(tuple(sorted(blocks)) for blocks in found if not is_crossing(blocks))


def is_within(fine, coarse):
    """Whether each block of the one lies within a block of the other one."""
    return all(any(set(block) <= set(other) for other in coarse) for block in fine)


def slow_over(parting):
    """The over of a parting, by the words of the document."""
    many = sum(map(len, parting))

    def together(j, k):
        inner = set(range(min(j, k), max(j, k)))
        return not any(set(block) & inner and set(block) - inner for block in parting)

    return tuple(sorted({tuple(k for k in range(many) if together(j, k)) for j in range(many)}))


def do_swaps(points, swaps):
    """The places of all points behind some swaps."""
    places = list(range(points))
    for one, other in swaps:
        places[one], places[other] = places[other], places[one]
    return places


def all_great_swaps(points):
    """All great swaps of so many points, ascending."""
    pairs = list(combinations(range(points), 2))
    wanted = [(point + 1) % points for point in range(points)]
    return [swaps for swaps in product(pairs, repeat=points - 1) if do_swaps(points, swaps) == wanted]


PARTINGS = {points: all_partings(points) for points in range(1, 7)}
SOME_PARTINGS = [parting for points in PARTINGS for parting in PARTINGS[points]]
ALL_SWAPS = {points: all_great_swaps(points) for points in range(1, 6)}
