"""Leads and bars of lines: rows of integers, one for each cut."""

from eightworlds.basics import are_between, need_few
from eightworlds.errors import InvalidRow
from eightworlds.listing import cuttings
from eightworlds.pairings import low_ways, sides_by_ways
from eightworlds.polygons import is_cut_within, need_cutting
from eightworlds.snakes import cuts_along, need_line, snake_along

MOST_ITEM = 30
MOST_SIDES_PARTED = 7


def lead_along(cutting, line):
    """Return the lead of what is known to be a line of a cutting."""
    cuts = cutting[1]
    if line in cuts:
        return tuple([1 if cut == line else 0 for cut in cuts])
    tiles, below = snake_along(cutting, line), cuts_along(cutting, line)
    above = [tie for _, tie in sides_by_ways(tiles, low_ways(tiles))]
    return tuple([above.count(cut) - below.count(cut) for cut in cuts])


def bars_along(cutting, line):
    """Return the bars of what is known to be a line of a cutting."""
    met = cuts_along(cutting, line)
    return tuple([-1 if cut == line else 1 if cut in met else 0 for cut in cutting[1]])


def lead(cutting, line):
    """Return the lead of a line."""
    need_cutting(cutting)
    need_line(cutting, line)
    return lead_along(cutting, line)


def bars(cutting, line):
    """Return the bars of a line."""
    need_cutting(cutting)
    need_line(cutting, line)
    return bars_along(cutting, line)


def need_row_of(cutting, value):
    """Raise InvalidRow for what is no row with an integer for each cut of a cutting."""
    if not are_between(value, -MOST_ITEM, MOST_ITEM) or len(value) != len(cutting[1]):
        raise InvalidRow(f"an integer from {-MOST_ITEM} to {MOST_ITEM} for each cut is needed")


def lines_within(sides):
    """Return the list of all lines that are no sides of a polygon."""
    lines = [(low, high) for low in range(sides) for high in range(low + 1, sides)]
    return [line for line in lines if is_cut_within(sides, line)]


def line_with_lead(cutting, row):
    """Return the line, no side of the polygon, whose lead a row is, or None."""
    need_cutting(cutting)
    need_row_of(cutting, row)
    fit = [line for line in lines_within(cutting[0]) if lead_along(cutting, line) == row]
    return fit[0] if fit else None


def line_with_bars(cutting, row):
    """Return the line, no side of the polygon, whose bars a row is, or None."""
    need_cutting(cutting)
    need_row_of(cutting, row)
    fit = [line for line in lines_within(cutting[0]) if bars_along(cutting, line) == row]
    return fit[0] if fit else None


def determinant(rows):
    """Return the determinant of a small table."""
    if not rows:
        return 1
    total = 0
    for at, item in enumerate(rows[0]):
        rest = determinant([row[:at] + row[at + 1:] for row in rows[1:]])
        total = total + (item * rest if at % 2 == 0 else -item * rest)
    return total


def times_of(leads, row):
    """Return how many times each of as many leads has to be taken to come to a row."""
    # The leads of the cuts of a cutting have the determinant 1 or -1.
    sign = determinant(leads)
    return [sign * determinant(leads[:at] + [row] + leads[at + 1:]) for at in range(len(leads))]


def lead_parts(cutting, row):
    """Return the ascending tuple of pairs of a line and a number, lines that do not cross, that come to a row."""
    need_cutting(cutting)
    need_row_of(cutting, row)
    need_few(cutting[0], MOST_SIDES_PARTED)
    # Some cutting has all lines that are needed; the search ends with it.
    for _, lines in cuttings(cutting[0]):
        times = times_of([lead_along(cutting, line) for line in lines], row)
        if all([number >= 0 for number in times]):
            break
    return tuple([(line, number) for line, number in zip(lines, times) if number > 0])
