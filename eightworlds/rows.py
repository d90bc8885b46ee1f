"""Rows of integers, what is struck in them, and which are the counts of cuttings."""

from eightworlds.basics import are_between, is_between
from eightworlds.errors import InvalidPlace, InvalidRow
from eightworlds.polygons import MOST_SIDES


def is_row(value):
    """Return whether any value is a row."""
    return are_between(value, -99, 99) and 3 <= len(value) <= MOST_SIDES


def need_row(value):
    """Raise InvalidRow for what is no row."""
    if not is_row(value):
        raise InvalidRow(f"a tuple of 3 to {MOST_SIDES} integers from -99 to 99 is needed")


def can_strike(row, place):
    """Return whether any value is the place of what can be struck in a tuple of integers."""
    return len(row) > 3 and is_between(place, 0, len(row) - 1) and row[place] == 1


def places_beside(row, place):
    """Return the places ahead of a place and behind it, going round."""
    return ((place - 1) % len(row), (place + 1) % len(row))


def struck(row, place):
    """Return a tuple of integers with the 1 at a place struck."""
    beside = places_beside(row, place)
    return tuple([item - 1 if at in beside else item for at, item in enumerate(row) if at != place])


def is_stuck(row):
    """Return whether striking ends at this tuple of integers, and not at three ones."""
    if min(row) < 1 or 1 not in row:
        return True
    return len(row) == 3 and row != (1, 1, 1)


def struck_to_end(row):
    """Return the places at which is struck until nothing is left to do, the cuts that come so, and what is left."""
    corners = list(range(len(row)))
    places = []
    cuts = []
    while len(row) > 3 and not is_stuck(row):
        place = row.index(1)
        ends = [corners[beside] for beside in places_beside(row, place)]
        cuts.append((min(ends), max(ends)))
        places.append(place)
        corners = corners[:place] + corners[place + 1:]
        row = struck(row, place)
    return (tuple(places), cuts, row)


def cutting_by_counts(row):
    """Return the cutting with these counts, or None; of a row that is known to be one."""
    _, cuts, rest = struck_to_end(row)
    return (len(row), tuple(sorted(cuts))) if rest == (1, 1, 1) else None


def are_counts(value):
    """Return whether any value is the counts of a cutting."""
    return is_row(value) and cutting_by_counts(value) is not None


def row_cutting(row):
    """Return the cutting whose counts a row is, or None."""
    need_row(row)
    return cutting_by_counts(row)


def row_struck(row, place):
    """Return a row with the 1 at a place struck."""
    need_row(row)
    if not can_strike(row, place):
        raise InvalidPlace("the place of a 1 in a row of more than three items is needed")
    return struck(row, place)


def row_bar(row):
    """Return a bar of a row, or None if it is the counts of a cutting."""
    need_row(row)
    places, _, rest = struck_to_end(row)
    return places if is_stuck(rest) else None


def is_row_bar(row, value):
    """Return whether any value is a bar of a row."""
    need_row(row)
    if not isinstance(value, tuple):
        return False
    for place in value:
        if not can_strike(row, place):
            return False
        row = struck(row, place)
    return is_stuck(row)
