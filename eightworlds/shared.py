"""Cuts that two cuttings share, and the fields between these."""

from eightworlds.basics import are_between
from eightworlds.errors import InvalidField
from eightworlds.polygons import is_cut_within, need_cutting, parts, ties
from eightworlds.ways import need_both


def cuts_of_both(one, other):
    """Return the ascending list of all cuts that two cuttings have, both known to be such."""
    return [cut for cut in one[1] if cut in other[1]]


def shared_cuts(one, other):
    """Return the ascending list of all cuts that both cuttings have."""
    need_both(one, other)
    return cuts_of_both(one, other)


def shared_fields(one, other):
    """Return the ascending list of all shared fields of two cuttings."""
    need_both(one, other)
    return parts(one[0], cuts_of_both(one, other))


def is_field(cutting, value):
    """Return whether any value is the corners of a polygon whose sides are ties of a cutting."""
    if not are_between(value, 0, cutting[0] - 1) or len(value) < 3:
        return False
    # Ties are ascending pairs; so the corners are ascending, too.
    known = ties(cutting)
    return (value[0], value[-1]) in known and all([pair in known for pair in zip(value, value[1:])])


def cutting_within(cutting, corners):
    """Return a cutting in what is known to be a field of it."""
    places = {corner: place for place, corner in enumerate(corners)}
    within = [(places[low], places[high]) for low, high in cutting[1] if low in places and high in places]
    return (len(corners), tuple([cut for cut in within if is_cut_within(len(corners), cut)]))


def within_field(cutting, corners):
    """Return a cutting in a field of it."""
    need_cutting(cutting)
    if not is_field(cutting, corners):
        raise InvalidField("an ascending tuple of corners, with a tie between all next ones, is needed")
    return cutting_within(cutting, corners)
