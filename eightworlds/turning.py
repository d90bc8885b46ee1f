"""Turning cuttings and mirroring them."""

from eightworlds.basics import need_number
from eightworlds.polygons import need_cutting


def moved(cutting, sign, steps):
    """Return a cutting in which each corner, taken times a sign, gets a number greater by some steps."""
    sides, cuts = cutting
    ends = [((sign * low + steps) % sides, (sign * high + steps) % sides) for low, high in cuts]
    return (sides, tuple(sorted([(min(one, other), max(one, other)) for one, other in ends])))


def turned(cutting, steps):
    """Return a cutting turned by so many steps."""
    need_cutting(cutting)
    need_number(steps, -1000, 1000)
    return moved(cutting, 1, steps)


def mirrored(cutting):
    """Return the mirror image of a cutting."""
    need_cutting(cutting)
    return moved(cutting, -1, 0)


def least_turned(cutting):
    """Return the plain form of what is known to be a cutting."""
    return min([moved(cutting, sign, steps) for sign in (1, -1) for steps in range(cutting[0])])


def plain(cutting):
    """Return the plain form of a cutting."""
    need_cutting(cutting)
    return least_turned(cutting)


def alike(one, other):
    """Return whether two cuttings have the same plain form."""
    need_cutting(one)
    need_cutting(other)
    return least_turned(one) == least_turned(other)


def own_turns(cutting):
    """Return the ascending list of the own turns of a cutting."""
    need_cutting(cutting)
    ways = [(steps, sign) for steps in range(cutting[0]) for sign in (1, -1)]
    return [(steps, sign == -1) for steps, sign in ways if moved(cutting, sign, steps) == cutting]
