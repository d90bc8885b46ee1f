"""Lengths of ties, and those of lines by them."""

from eightworlds.basics import is_fraction, need_few, ratio_product, ratio_quotient, ratio_sum
from eightworlds.errors import InvalidLengths
from eightworlds.exchanges import cut_behind, exchanged
from eightworlds.polygons import need_cut, need_cutting, ties
from eightworlds.snakes import need_line
from eightworlds.valued import across, corner_arrows

MOST_SIDES_BY_LENGTHS = 12


def fit_lengths(cutting, value):
    """Return whether any value is lengths of what is known to be a cutting."""
    if not isinstance(value, tuple) or len(value) != 2 * cutting[0] - 3:
        return False
    return all([is_fraction(share) and share[0] > 0 for share in value])


def need_lengths(cutting, value):
    """Raise InvalidLengths for what is no lengths of a cutting."""
    if not fit_lengths(cutting, value):
        raise InvalidLengths("a fraction above nought for each tie is needed")


def are_lengths(cutting, value):
    """Return whether any value is lengths of a cutting."""
    need_cutting(cutting)
    return fit_lengths(cutting, value)


def spans_by(cutting, lengths):
    """Return the length of each tie of a cutting, by the tie."""
    return {tie: share for tie, share in zip(ties(cutting), lengths)}


def length(cutting, lengths, line):
    """Return the length of a line."""
    need_cutting(cutting)
    need_lengths(cutting, lengths)
    need_line(cutting, line)
    # Lengths keep to the rule of friezes; so they come of pairs of fractions at the corners, as these do.
    arrows = corner_arrows(cutting, spans_by(cutting, lengths))
    return across(arrows[line[0]], arrows[line[1]])


def all_lengths(cutting, lengths):
    """Return the list of the lengths of all lines, in ascending order of these."""
    need_cutting(cutting)
    need_lengths(cutting, lengths)
    need_few(cutting[0], MOST_SIDES_BY_LENGTHS)
    arrows = corner_arrows(cutting, spans_by(cutting, lengths))
    return [across(one, other) for at, one in enumerate(arrows) for other in arrows[at + 1:]]


def span_behind(cutting, spans, cut):
    """Return the cut that comes if a cut is exchanged, and its length, by the lengths of the ties."""
    new = cut_behind(cutting, cut)
    first, second, third, fourth = sorted(cut + new)
    one = ratio_product(spans[(first, second)], spans[(third, fourth)])
    other = ratio_product(spans[(second, third)], spans[(first, fourth)])
    return (new, ratio_quotient(ratio_sum(one, other), spans[cut]))


def lengths_behind(cutting, lengths, cut):
    """Return the lengths of all ties of the cutting behind an exchange, in their order."""
    need_cutting(cutting)
    need_lengths(cutting, lengths)
    need_cut(cutting, cut)
    spans = spans_by(cutting, lengths)
    new, share = span_behind(cutting, spans, cut)
    return tuple([share if tie == new else spans[tie] for tie in ties(exchanged(cutting, cut))])
