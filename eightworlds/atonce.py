"""Cuts exchanged at once, and rounds of these."""

from eightworlds.basics import are_ints, distances_by, is_ascending, need_few
from eightworlds.errors import InvalidCuts
from eightworlds.exchanges import cut_behind
from eightworlds.polygons import need_cutting, pieces, pieces_down
from eightworlds.ways import need_both

MOST_SIDES_IN_ROUNDS = 7


def share_no_piece(cutting, cuts):
    """Return whether no two of some cuts of a cutting are of one piece."""
    for low, middle, high in pieces(cutting):
        if len([tie for tie in ((low, middle), (middle, high), (low, high)) if tie in cuts]) > 1:
            return False
    return True


def fit_at_once(cutting, value):
    """Return whether any value is cuts that can be exchanged at once, of what is known to be a cutting."""
    if not isinstance(value, tuple) or not 1 <= len(value) <= len(cutting[1]):
        return False
    if not all([are_ints(cut, 2) and cut in cutting[1] for cut in value]) or not is_ascending(value):
        return False
    return share_no_piece(cutting, value)


def can_at_once(cutting, value):
    """Return whether any value is an ascending tuple of at least one cut, all of which can be exchanged at once."""
    need_cutting(cutting)
    return fit_at_once(cutting, value)


def behind_round(cutting, cuts):
    """Return the cutting behind a round of what are known to be cuts that can be exchanged at once."""
    new = [cut_behind(cutting, cut) if cut in cuts else cut for cut in cutting[1]]
    return (cutting[0], tuple(sorted(new)))


def exchanged_at_once(cutting, cuts):
    """Return the cutting behind a round."""
    need_cutting(cutting)
    if not fit_at_once(cutting, cuts):
        raise InvalidCuts("an ascending tuple of cuts no two of which are of one piece is needed")
    return behind_round(cutting, cuts)


def count_at_once(cutting):
    """Return how many tuples of cuts there are that can be exchanged at once."""
    need_cutting(cutting)
    # For each base: in how many ways some or none of the cuts above it are taken, and in how many of these
    # none of the piece with the base is; what lies above a side is nothing.
    ways = {}
    for low, middle, high in pieces_down(cutting)[::-1]:
        left, right = ways.get((low, middle), (1, 0)), ways.get((middle, high), (1, 0))
        free = left[0] * right[0]
        ways[(low, high)] = (free + left[1] * right[0] + left[0] * right[1], free)
    return ways[(0, cutting[0] - 1)][0] - 1


def most_at_once(cutting):
    """Return the greatest number of cuts that can be exchanged at once."""
    need_cutting(cutting)
    # For each base likewise: the greatest number above it, and that with none of the piece with the base.
    most = {}
    for low, middle, high in pieces_down(cutting)[::-1]:
        left, right = most.get((low, middle), (0, -1)), most.get((middle, high), (0, -1))
        free = left[0] + right[0]
        most[(low, high)] = (max(free, left[1] + 1 + right[0], left[0] + right[1] + 1), free)
    return most[(0, cutting[0] - 1)][0]


def all_behind_rounds(cutting):
    """Return the list of all cuttings behind one round."""
    found = [()]
    for cut in cutting[1]:
        found = found + [cuts + (cut,) for cuts in found if share_no_piece(cutting, cuts + (cut,))]
    return [behind_round(cutting, cuts) for cuts in found[1:]]


def fewest_rounds(one, other):
    """Return the least number of rounds that lead from the one cutting to the other one."""
    need_both(one, other)
    need_few(one[0], MOST_SIDES_IN_ROUNDS)
    return distances_by(one, all_behind_rounds)[other]
