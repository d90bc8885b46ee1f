"""How far cuttings are from one another, over all cuttings of a polygon."""

from eightworlds.basics import need_few
from eightworlds.fewest import distances_from
from eightworlds.listing import cuttings, need_many_sides
from eightworlds.polygons import need_cutting
from eightworlds.turning import least_turned

MOST_SIDES_IN_LAYERS = 8


def all_distances(cutting):
    """Return how many exchanges are needed to each cutting of a polygon that is not too great, by these."""
    need_cutting(cutting)
    need_few(cutting[0], MOST_SIDES_IN_LAYERS)
    return distances_from(cutting)


def layers(cutting):
    """Return the tuple of how many cuttings are 0, 1, 2 and so on exchanges away from a cutting, and no fewer."""
    numbers = list(all_distances(cutting).values())
    return tuple([numbers.count(far) for far in range(max(numbers) + 1)])


def farthest(cutting):
    """Return the ascending list of all cuttings that are as many exchanges away from a cutting as there can be."""
    found = all_distances(cutting)
    most = max(list(found.values()))
    return sorted([other for other, far in found.items() if far == most])


def widest(sides):
    """Return the greatest least number of exchanges between any two cuttings of a polygon."""
    need_many_sides(sides, 7)
    # Turning and mirroring change no distances; so plain forms are enough to start from.
    some = sorted(set([least_turned(cutting) for cutting in cuttings(sides)]))
    return max([max(list(distances_from(cutting).values())) for cutting in some])
