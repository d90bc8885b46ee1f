"""Loose cuttings: cuts that do not cross, and the plates between them."""

from math import comb

from eightworlds.basics import is_between, need_few
from eightworlds.errors import Crossing, InvalidCut, InvalidLoose, Unlike
from eightworlds.listing import cuttings, ways_of_forks
from eightworlds.polygons import MOST_SIDES, are_free_cuts, crosses, is_cut_within, need_cut, parts

MOST_SIDES_LISTED = 9


def is_loose(value):
    """Return whether any value is a loose cutting."""
    if not isinstance(value, tuple) or len(value) != 2 or not is_between(value[0], 3, MOST_SIDES):
        return False
    return are_free_cuts(value[0], value[1])


def need_loose(value):
    """Raise InvalidLoose for what is no loose cutting."""
    if not is_loose(value):
        raise InvalidLoose("a loose cutting is needed")


def need_two_loose(one, other):
    """Raise InvalidLoose for what is no loose cutting, and Unlike for two of which one has more sides."""
    need_loose(one)
    need_loose(other)
    if one[0] != other[0]:
        raise Unlike("two loose cuttings with as many sides are needed")


def plates(loose):
    """Return the ascending list of all plates of a loose cutting."""
    need_loose(loose)
    return parts(loose[0], loose[1])


def plate_counts(loose):
    """Return the tuple of how many plates have three corners, four, and so on."""
    sizes = [len(plate) for plate in plates(loose)]
    return tuple([sizes.count(size) for size in range(3, max(sizes) + 1)])


def with_cut(loose, cut):
    """Return a loose cutting with one cut more, which is known to fit."""
    return (loose[0], tuple(sorted(loose[1] + (cut,))))


def without_cut(loose, cut):
    """Return a loose cutting without a cut of it."""
    return (loose[0], tuple([other for other in loose[1] if other != cut]))


def cut_in(loose, cut):
    """Return a loose cutting with one cut more."""
    need_loose(loose)
    if not is_cut_within(loose[0], cut) or cut in loose[1]:
        raise InvalidCut("a cut of the polygon that is not of the loose cutting is needed")
    if any([crosses(cut, other) for other in loose[1]]):
        raise Crossing("the cut crosses one of the loose cutting")
    return with_cut(loose, cut)


def cut_out(loose, cut):
    """Return a loose cutting without a cut of it."""
    need_loose(loose)
    need_cut(loose, cut)
    return without_cut(loose, cut)


def slid_by(loose, cut, steps):
    """Return a loose cutting in which each end of a cut gives way to the corner so many steps behind it."""
    rest = without_cut(loose, cut)
    plate = [corners for corners in parts(rest[0], rest[1]) if cut[0] in corners and cut[1] in corners][0]
    ends = [plate[(plate.index(corner) + steps) % len(plate)] for corner in cut]
    return with_cut(rest, (min(ends), max(ends)))


def slid(loose, cut):
    """Return a loose cutting in which a cut is slid."""
    need_loose(loose)
    need_cut(loose, cut)
    return slid_by(loose, cut, 1)


def slid_back(loose, cut):
    """Return a loose cutting in which a cut is slid back."""
    need_loose(loose)
    need_cut(loose, cut)
    return slid_by(loose, cut, -1)


def has_cuts_of(loose, other):
    """Return whether all cuts of another loose cutting are cuts of the one."""
    return all([cut in loose[1] for cut in other[1]])


def lies_in(one, other):
    """Return whether the one loose cutting lies in the other one."""
    need_two_loose(one, other)
    return has_cuts_of(other, one)


def common_cuts(one, other):
    """Return the loose cutting of the cuts that are of both."""
    need_two_loose(one, other)
    return (one[0], tuple([cut for cut in one[1] if cut in other[1]]))


def joined_cuts(one, other):
    """Return the loose cutting of all cuts of both, or None if two of them cross."""
    need_two_loose(one, other)
    cuts = tuple(sorted(set(one[1] + other[1])))
    return (one[0], cuts) if are_free_cuts(one[0], cuts) else None


def count_full(loose):
    """Return in how many cuttings a loose cutting lies."""
    number = 1
    for plate in plates(loose):
        number = number * ways_of_forks(len(plate) - 2)
    return number


def full_cuttings(loose):
    """Return the ascending list of the cuttings in which a loose cutting lies."""
    need_loose(loose)
    need_few(loose[0], MOST_SIDES_LISTED)
    return sorted([cutting for cutting in cuttings(loose[0]) if has_cuts_of(cutting, loose)])


def ways_to_cut(sides, many):
    """Return how many loose cuttings of a polygon have so many cuts, no more than there can be."""
    return comb(sides - 3, many) * comb(sides + many - 1, many) // (many + 1)


def counts_multiplied(one, other):
    """Return, for each number of cuts, in how many ways they come together from both."""
    found = [0] * (len(one) + len(other) - 1)
    for at, mine in enumerate(one):
        for place, yours in enumerate(other):
            found[at + place] = found[at + place] + mine * yours
    return found


def face_counts(loose):
    """Return the tuple of how many loose cuttings in which one lies have no cut more, one more, and so on."""
    counts = [1]
    for plate in plates(loose):
        counts = counts_multiplied(counts, [ways_to_cut(len(plate), many) for many in range(len(plate) - 2)])
    return tuple(counts)
