"""Exchanges of cuts."""

from eightworlds.basics import are_ints
from eightworlds.polygons import need_cut, need_cutting, parts


def cut_behind(cutting, cut):
    """Return the cut that comes if a cut of a cutting is exchanged, both known to be such."""
    low, high = cut
    beside = [piece for piece in parts(cutting[0], cutting[1]) if low in piece and high in piece]
    return tuple(sorted([corner for piece in beside for corner in piece if corner not in cut]))


def comes_for(cutting, cut):
    """Return the cut that comes if a cut is exchanged."""
    need_cutting(cutting)
    need_cut(cutting, cut)
    return cut_behind(cutting, cut)


def exchanged(cutting, cut):
    """Return the cutting in which a cut is exchanged."""
    need_cutting(cutting)
    need_cut(cutting, cut)
    sides, cuts = cutting
    return (sides, tuple(sorted([other for other in cuts if other != cut] + [cut_behind(cutting, cut)])))


def cuttings_along(cutting, value, most):
    """Return the list of the cuttings along a way, the first one too, or None if any value is no way so short."""
    if not isinstance(value, tuple) or len(value) > most:
        return None
    along = [cutting]
    for cut in value:
        if not are_ints(cut, 2) or cut not in along[-1][1]:
            return None
        along.append(exchanged(along[-1], cut))
    return along


def exchanges(cutting):
    """Return the ascending list of all pairs of a cut and the one that comes for it."""
    need_cutting(cutting)
    return [(cut, cut_behind(cutting, cut)) for cut in cutting[1]]


def fan_way(cutting):
    """Return the fewest cuts by whose exchanges, one after another, all cuts come to have the corner 0."""
    need_cutting(cutting)
    # Each such cut needs one exchange. Behind those of all wider ones, the corner 0 lies across from it.
    far = sorted([(low - high, low, high) for low, high in cutting[1] if low > 0])
    return tuple([(low, high) for _, low, high in far])
