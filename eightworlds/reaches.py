"""Reaches of corners, by lengths that go along with exchanges."""

from eightworlds.basics import are_between, is_fraction, ratio, ratio_product
from eightworlds.errors import InvalidCorner, InvalidShare
from eightworlds.lengths import need_lengths, spans_by
from eightworlds.polygons import is_cut_within, need_corner, need_cutting, pieces_down

MOST_SHARE = 1000


def is_share(value):
    """Return whether any value is a share."""
    return are_between(value, 1, MOST_SHARE) and is_fraction(value)


def need_share(value):
    """Raise InvalidShare for what is no share."""
    if not is_share(value):
        raise InvalidShare(f"a fraction of two integers from 1 to {MOST_SHARE} is needed")


def need_unlike_corners(sides, first, last):
    """Raise InvalidCorner for what are no two unlike corners of the polygon with so many sides."""
    need_corner(sides, first)
    need_corner(sides, last)
    if first == last:
        raise InvalidCorner("two unlike corners are needed")


def lengths_by(spans):
    """Return the lengths of all ties, in their order, from those by the ties."""
    return tuple([spans[tie] for tie in sorted(spans)])


def cutting_by_ties(sides, spans):
    """Return the cutting of a polygon that has these ties."""
    return (sides, tuple([tie for tie in sorted(spans) if is_cut_within(sides, tie)]))


def spans_scaled(spans, corner, share):
    """Return the lengths by the ties in which those of all ties with a corner are taken times a share."""
    return {tie: ratio_product(own, share) if corner in tie else own for tie, own in spans.items()}


def corners_numbered(corners, numbers):
    """Return an ascending tuple of corners that have got other numbers."""
    return tuple(sorted([numbers[corner] for corner in corners]))


def numbers_turned(sides, sign, steps):
    """Return the numbers that all corners get, taken times a sign, if they are greater by some steps, going round."""
    return [(sign * corner + steps) % sides for corner in range(sides)]


def spans_numbered(spans, numbers):
    """Return the lengths by the ties whose corners have got other numbers."""
    return {corners_numbered(tie, numbers): own for tie, own in spans.items()}


def tops_from_first(cutting, spans):
    """Return, by each other corner, its reach from the corner 0 as a top and a below, which may have divisors."""
    found = {}
    bases = {}
    for low, middle, high in pieces_down(cutting):
        near, far = spans[(low, middle)], spans[(middle, high)]
        if low == 0:
            base = spans[(0, high)]
            found[middle], found[high] = near, base
            bases[(middle, high)] = (near[0] * base[1], base[0] * near[1], near[1] * base[1])
        else:
            # The reaches of both ends of a base are kept with one below; so nothing has to be made less on the way.
            one, other, below = bases[(low, high)]
            base = spans[(low, high)]
            more = base[0] * near[1] * far[1]
            top = (one * far[0] * near[1] + other * near[0] * far[1]) * base[1]
            found[middle] = (top, below * more)
            bases[(low, middle)] = (one * more, top, below * more)
            bases[(middle, high)] = (top, other * more, below * more)
    return found


def reaches_from(cutting, lengths, corner):
    """Return, by each corner behind a corner, its reach from this one as a top and a below, which may have divisors."""
    sides = cutting[0]
    spans = spans_numbered(spans_by(cutting, lengths), numbers_turned(sides, 1, -corner))
    tops = tops_from_first(cutting_by_ties(sides, spans), spans)
    return {other: tops[other - corner] for other in range(corner + 1, sides)}


def reaches_of(cutting, lengths, pairs):
    """Return the tuple of the reaches of some ascending pairs of corners, all of what is known to fit."""
    tops = {first: reaches_from(cutting, lengths, first) for first in sorted(set([low for low, _ in pairs]))}
    found = [tops[low][high] for low, high in pairs]
    return tuple([ratio(top, below) for top, below in found])


def reach_between(cutting, lengths, first, last):
    """Return the reach of what are known to be two unlike corners."""
    return reaches_of(cutting, lengths, [(min(first, last), max(first, last))])[0]


def all_reaches_by(cutting, lengths):
    """Return the tuple of the reaches of all ascending pairs of corners, by what are known to be lengths."""
    sides = cutting[0]
    return reaches_of(cutting, lengths, [(low, high) for low in range(sides) for high in range(low + 1, sides)])


def scaled(cutting, lengths, corner, share):
    """Return the lengths in which those of all ties with a corner are taken times a share."""
    need_cutting(cutting)
    need_lengths(cutting, lengths)
    need_corner(cutting[0], corner)
    need_share(share)
    return lengths_by(spans_scaled(spans_by(cutting, lengths), corner, share))


def reach(cutting, lengths, first, last):
    """Return the reach of two unlike corners."""
    need_cutting(cutting)
    need_lengths(cutting, lengths)
    need_unlike_corners(cutting[0], first, last)
    return reach_between(cutting, lengths, first, last)


def all_reaches(cutting, lengths):
    """Return the tuple of the reaches of all ascending pairs of corners, in order."""
    need_cutting(cutting)
    need_lengths(cutting, lengths)
    return all_reaches_by(cutting, lengths)
