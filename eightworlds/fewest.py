"""Ways with as few exchanges as can be."""

from math import comb

from eightworlds.basics import distances_by, need_few
from eightworlds.exchanges import exchanged
from eightworlds.shared import cutting_within, shared_fields
from eightworlds.ways import is_way_to

MOST_SIDES_OF_FIELD = 8


def all_exchanged(cutting):
    """Return the list of all cuttings behind one exchange."""
    return [exchanged(cutting, cut) for cut in cutting[1]]


def distances_from(cutting):
    """Return how many exchanges are needed to each cutting of the polygon, by these, the nearest ones first."""
    return distances_by(cutting, all_exchanged)


def field_pairs(one, other):
    """Return the list of the shared fields of two cuttings, and of these within them; a triangle needs no exchange."""
    fields = shared_fields(one, other)
    need_few(max([len(corners) for corners in fields]), MOST_SIDES_OF_FIELD)
    return [
        (corners, cutting_within(one, corners), cutting_within(other, corners))
        for corners in fields if len(corners) > 3
    ]


def fewest_exchanges(one, other):
    """Return the least number of exchanges from the one cutting to the other one."""
    return sum([distances_from(aim)[start] for _, start, aim in field_pairs(one, other)])


def least_way_within(start, aim):
    """Return a least way between two cuttings of a field."""
    far = distances_from(aim)
    way = []
    while start != aim:
        cut = [some for some in start[1] if far[exchanged(start, some)] < far[start]][0]
        way.append(cut)
        start = exchanged(start, cut)
    return way


def least_way(one, other):
    """Return a least way from the one cutting to the other one."""
    way = []
    for corners, start, aim in field_pairs(one, other):
        way.extend([(corners[low], corners[high]) for low, high in least_way_within(start, aim)])
    return tuple(way)


def is_least_way(one, other, value):
    """Return whether any value is a least way from the one cutting to the other one."""
    least = fewest_exchanges(one, other)
    return is_way_to(one, other, value) and len(value) == least


def on_ways_within(start, aim):
    """Return how far each cutting on a least way between two cuttings of a field is, by these, the nearest first."""
    ahead, behind = distances_from(start), distances_from(aim)
    return {some: many for some, many in ahead.items() if many + behind[some] == ahead[aim]}


def count_ways_within(far):
    """Return how many least ways there are between two cuttings of a field, by the distances of all on these."""
    ways = {}
    for some in far:
        ahead = [ways[other] for other in all_exchanged(some) if other in ways and far[other] < far[some]]
        ways[some] = sum(ahead) if ahead else 1
    return list(ways.values())[-1]


def count_least_ways(one, other):
    """Return how many least ways lead from the one cutting to the other one."""
    number, total = 1, 0
    for _, start, aim in field_pairs(one, other):
        far = on_ways_within(start, aim)
        total = total + far[aim]
        # No exchange of a field changes what can be done in another one; so ways of both go between one another.
        number = number * count_ways_within(far) * comb(total, far[aim])
    return number


def on_least_ways(one, other):
    """Return how many cuttings some least way from the one cutting to the other one comes to, both ends too."""
    number = 1
    for _, start, aim in field_pairs(one, other):
        number = number * len(on_ways_within(start, aim))
    return number
