"""Names of lines: sums of products of ties, one for each pairing."""

from eightworlds.basics import are_ints, is_ascending, is_same, need_few
from eightworlds.errors import InvalidCorners
from eightworlds.pairings import sides_by_ways, ways_along
from eightworlds.polygons import need_cut, need_cutting, ties
from eightworlds.snakes import cuts_along, need_line, snake_along
from eightworlds.sums import sum_multiplied
from eightworlds.tables import need_way, order_behind, table

MOST_CROSSED = 10
MOST_SIDES_NAMED = 12
MOST_SIDES_CROSSED = 10
MOST_SIDES_BEHIND = 9


def powers_of(known, above, below):
    """Return, for each of the known ties, how often it is among those above, less how often among those below."""
    return tuple([above.count(tie) - below.count(tie) for tie in known])


def name_along(cutting, line):
    """Return the name of what is known to be a line of a cutting."""
    known = ties(cutting)
    if line in known:
        return ((powers_of(known, [line], []), 1),)
    tiles, below = snake_along(cutting, line), cuts_along(cutting, line)
    pairings = [[tie for _, tie in sides_by_ways(tiles, ways)] for ways in ways_along(cutting, line)]
    return tuple(sorted([(powers_of(known, above, below), 1) for above in pairings]))


def name(cutting, line):
    """Return the name of a line."""
    need_cutting(cutting)
    need_line(cutting, line)
    need_few(len(cuts_along(cutting, line)), MOST_CROSSED)
    return name_along(cutting, line)


def line_named(cutting, value):
    """Return the line whose name any value is, or None."""
    need_cutting(cutting)
    need_few(cutting[0], MOST_SIDES_NAMED)
    lines = [(low, high) for high in range(cutting[0]) for low in range(high)]
    fit = [line for line in lines if is_same(value, name_along(cutting, line))]
    return fit[0] if fit else None


def crossing_sums(cutting, corners):
    """Return the products of the names of the lines that cross between four corners, and of opposite ones."""
    need_cutting(cutting)
    if not are_ints(corners, 4) or not is_ascending(corners) or corners[0] < 0 or corners[3] >= cutting[0]:
        raise InvalidCorners("an ascending tuple of four corners is needed")
    need_few(cutting[0], MOST_SIDES_CROSSED)
    first, second, third, fourth = corners
    pairs = (
        ((first, third), (second, fourth)), ((first, second), (third, fourth)), ((first, fourth), (second, third)),
    )
    return tuple([sum_multiplied(name_along(cutting, one), name_along(cutting, other)) for one, other in pairs])


def exchange_sum(cutting, cut):
    """Return the name of the cut that comes if a cut is exchanged."""
    need_cutting(cutting)
    need_cut(cutting, cut)
    known = ties(cutting)
    row = table(cutting)[cutting[1].index(cut)]
    products = [
        powers_of(known, [tie for tie, number in zip(known, row) if number == sign], [cut]) for sign in (1, -1)
    ]
    return tuple(sorted([(powers, 1) for powers in products]))


def names_behind(cutting, way):
    """Return the tuple of the names of the cuts in their order behind a way."""
    need_cutting(cutting)
    need_way(cutting, way)
    need_few(cutting[0], MOST_SIDES_BEHIND)
    # Whatever exchanges lead to a cut, its name is the same; so it is not made step by step.
    return tuple([name_along(cutting, cut) for cut in order_behind(cutting, way)])
