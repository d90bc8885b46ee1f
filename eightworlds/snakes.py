"""Lines across a cutting, and the snakes of squares that go along with them."""

from eightworlds.basics import are_ints
from eightworlds.errors import InvalidLine
from eightworlds.polygons import crosses, need_cutting


def is_line(cutting, value):
    """Return whether any value is a line of a cutting."""
    return are_ints(value, 2) and 0 <= value[0] < value[1] < cutting[0]


def need_line(cutting, value):
    """Raise InvalidLine for what is no line of a cutting."""
    if not is_line(cutting, value):
        raise InvalidLine("an ascending pair of two unlike corners is needed")


def cuts_along(cutting, line):
    """Return the list of the crossed cuts of a line, in the order in which they are met."""
    sides, cuts = cutting
    first, last = line
    # A cut that is met later is as far or farther from the first corner with both its ends, on both ways round.
    ends = [(low, high) if first < low < last else (high, low) for low, high in cuts if crosses((low, high), line)]
    met = sorted([(inner - first, (first - outer) % sides) for inner, outer in ends])
    pairs = [(first + inner, (first - outer) % sides) for inner, outer in met]
    return [(min(pair), max(pair)) for pair in pairs]


def crossed(cutting, line):
    """Return the list of the crossed cuts of a line."""
    need_cutting(cutting)
    need_line(cutting, line)
    return cuts_along(cutting, line)


def first_tile(line, cut):
    """Return the corners of the first tile but that at the upper right, by the first crossed cut."""
    low, high = cut
    first, last = line
    inner, outer = (low, high) if first < low < last else (high, low)
    return (first, outer, inner)


def ends_ahead(line, cuts):
    """Return, for each crossed cut, the third corner of the piece by which the line leaves it."""
    between = [[corner for corner in behind if corner not in cut][0] for cut, behind in zip(cuts, cuts[1:])]
    return between + [line[1]]


def tiles_along(line, cuts):
    """Return the snake of a line with these crossed cuts, of which there is one at least."""
    across, up = 0, 0
    lower_left, upper_left, lower_right = first_tile(line, cuts[0])
    tiles = []
    for at, upper_right in enumerate(ends_ahead(line, cuts)):
        tiles.append(((across, up), (lower_left, upper_left, upper_right, lower_right)))
        if at + 1 < len(cuts) and upper_left in cuts[at + 1]:
            across = across + 1
            lower_left, upper_left, lower_right = lower_right, upper_right, upper_left
        else:
            up = up + 1
            lower_left, upper_left, lower_right = upper_left, lower_right, upper_right
    return tuple(tiles)


def snake_along(cutting, line):
    """Return the snake of what is known to be a line of a cutting."""
    cuts = cuts_along(cutting, line)
    return tiles_along(line, cuts) if cuts else ()


def snake(cutting, line):
    """Return the snake of a line."""
    need_cutting(cutting)
    need_line(cutting, line)
    return snake_along(cutting, line)


def shape_of(cutting, line):
    """Return the shape of the snake of a line, or None for a tie."""
    need_cutting(cutting)
    need_line(cutting, line)
    spots = [spot for spot, _ in snake_along(cutting, line)]
    if not spots:
        return None
    return tuple(["right" if behind[0] > spot[0] else "up" for spot, behind in zip(spots, spots[1:])])


def sides_of_tile(spot, corners):
    """Return the list of the pairs of a rail and its tie for the four sides of a tile."""
    across, up = spot
    points = ((across, up), (across, up + 1), (across + 1, up + 1), (across + 1, up))
    pairs = ((0, 1), (1, 2), (3, 2), (0, 3))
    return [
        ((points[one], points[other]), tuple(sorted([corners[one], corners[other]]))) for one, other in pairs
    ]


def rails(cutting, line):
    """Return the ascending list of the pairs of all rails and their ties."""
    need_cutting(cutting)
    need_line(cutting, line)
    tiles = snake_along(cutting, line)
    return sorted(set([side for spot, corners in tiles for side in sides_of_tile(spot, corners)]))
