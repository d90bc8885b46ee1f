"""Exchanges over all cuttings of a polygon, found in slow ways that are easy to believe."""

from itertools import combinations

from tests import helpers


def one_step(some, beside):
    """All distances between values, each one by itself; `beside` is a dict of those one step away."""
    found = {}
    for start in some:
        found[start, start] = 0
        layer, far = [start], 0
        while layer:
            far += 1
            layer = sorted({other for one in layer for other in beside[one] if (start, other) not in found})
            for other in layer:
                found[start, other] = far
    return found


# Of the polygons of 3 to 7 sides: all cuttings, those one exchange away from each, and all distances.
CUTTINGS = {sides: helpers.every_cutting(sides) for sides in range(3, 8)}
BESIDE = {
    cutting: [helpers.slow_exchange(cutting, cut)[1] for cut in cutting[1]]
    for some in CUTTINGS.values() for cutting in some
}
FAR = {sides: one_step(CUTTINGS[sides], BESIDE) for sides in CUTTINGS}
PAIRS = [(one, other) for sides in range(3, 7) for one in CUTTINGS[sides] for other in CUTTINGS[sides]]


def far_between(one, other):
    """The least number of exchanges."""
    return FAR[one[0]][one, other]


def all_least_ways(one, other):
    """All least ways from the one cutting to the other one."""
    if one == other:
        return [()]
    found = []
    for cut in one[1]:
        behind = helpers.slow_exchange(one, cut)[1]
        if far_between(behind, other) < far_between(one, other):
            found += [(cut,) + way for way in all_least_ways(behind, other)]
    return found


def walk(cutting, way):
    """All cuttings along a way, the first one too, or None if it is no way."""
    found = [cutting]
    for cut in way:
        if cut not in found[-1][1]:
            return None
        found.append(helpers.slow_exchange(found[-1], cut)[1])
    return found


def slow_fields(sides, cuts):
    """All polygons into which cuts part a polygon, found by looking at all sets of corners."""
    sides_and_cuts = {tuple(sorted((corner, (corner + 1) % sides))) for corner in range(sides)} | set(cuts)
    found = []
    for many in range(3, sides + 1):
        for some in combinations(range(sides), many):
            around = set(zip(some, some[1:])) | {(some[0], some[-1])}
            if around <= sides_and_cuts and not any(set(cut) <= set(some) and cut not in around for cut in cuts):
                found.append(some)
    return sorted(found)


def all_loose(sides):
    """All loose cuttings of a polygon, ascending, found by looking at all sets of cuts."""
    found = []
    for many in range(sides - 2):
        found += [
            (sides, cuts) for cuts in combinations(helpers.all_cuts(sides), many)
            if not any(helpers.meet_inside(one, other) for one, other in combinations(cuts, 2))
        ]
    return sorted(found)


LOOSE = {sides: all_loose(sides) for sides in range(3, 8)}
LITTLE_LOOSE = [loose for sides in range(3, 7) for loose in LOOSE[sides]]
GREAT_LOOSE = [(cutting[0], cutting[1][at::step]) for cutting in helpers.GREAT for at, step in ((0, 2), (1, 3), (2, 9))]
GREAT_LOOSE += [(40, ()), (40, ((0, 20),)), (40, ((1, 39),)), (9, ((2, 5), (5, 8)))]
GREAT_LOOSE += helpers.GREAT[-6:]
