"""Pairings of the rails of snakes, their flips, lots and levels."""

from eightworlds.basics import are_between, are_ints, is_ascending, is_int, need_few
from eightworlds.errors import InvalidLot, InvalidPairing, InvalidTile
from eightworlds.polygons import need_cutting
from eightworlds.shapes import levels_by, tally
from eightworlds.snakes import need_line, shape_of, sides_of_tile, snake_along

MOST_CROSSED = 12

# In a pairing a tile stands or lies: it has its left and right rail, or its lower and upper one, as far as the tiles
# beside it stand or lie likewise. In the low pairing each other tile stands, the first one too. So pairings are told
# by a boolean for each tile, called their ways here.


def do_fit(word, stands, behind):
    """Return whether of two tiles, the other one lying by the one as the word says, each can stand or lie so."""
    # Otherwise rails of both would come together in a point.
    return stands or behind if word == "right" else not stands or not behind


def ways_along(cutting, line):
    """Return the list of the ways of all pairings of a line's snake."""
    shape = shape_of(cutting, line)
    if shape is None:
        return [()]
    found = [(True,), (False,)]
    for word in shape:
        found = [ways + (stands,) for ways in found for stands in (True, False) if do_fit(word, ways[-1], stands)]
    return found


def low_ways(tiles):
    """Return the ways of the low pairing of a snake."""
    return tuple([at % 2 == 0 for at in range(len(tiles))])


def ways_by_lot(tiles, lot):
    """Return the ways of the pairing of a snake with a lot."""
    return tuple([stands != (at in lot) for at, stands in enumerate(low_ways(tiles))])


def sides_by_ways(tiles, ways):
    """Return the ascending list of the pairs of a rail and its tie, for the pairing of a snake with these ways."""
    taken, left_out = [], {}
    for (spot, corners), stands in zip(tiles, ways):
        left, upper, right, lower = sides_of_tile(spot, corners)
        mine, others = ((left, right), (lower, upper)) if stands else ((lower, upper), (left, right))
        taken.extend(mine)
        for rail, _ in others:
            left_out[rail] = True
    return sorted(set([side for side in taken if side[0] not in left_out]))


def pairing_by_ways(tiles, ways):
    """Return the pairing of a snake with these ways."""
    return tuple([rail for rail, _ in sides_by_ways(tiles, ways)])


def rails_by_tile(tiles):
    """Return, for each tile of a snake, the list of its left, its upper, its right and its lower rail."""
    return [[rail for rail, _ in sides_of_tile(spot, corners)] for spot, corners in tiles]


def lot_by_pairing(tiles, pairing):
    """Return the lot of a pairing of a snake."""
    by_tile = rails_by_tile(tiles)
    lot = []
    for at, here in enumerate(by_tile):
        beside = [rail for others in by_tile[max(at - 1, 0):at] + by_tile[at + 1:at + 2] for rail in others]
        # Rails that are of this tile alone come and go by its own flips alone.
        place, own = [(some, rail) for some, rail in enumerate(here) if rail not in beside][0]
        stands = (own in pairing) == (place % 2 == 0)
        if stands != (at % 2 == 0):
            lot.append(at)
    return tuple(lot)


def is_rail(value):
    """Return whether any value is made like a rail."""
    return isinstance(value, tuple) and len(value) == 2 and all([are_ints(point, 2) for point in value])


def is_pairing_of(tiles, value):
    """Return whether any value is a pairing of a snake."""
    if not tiles:
        return isinstance(value, tuple) and len(value) == 0
    if not isinstance(value, tuple) or len(value) != len(tiles) + 1 or not all([is_rail(rail) for rail in value]):
        return False
    known = [rail for here in rails_by_tile(tiles) for rail in here]
    if not is_ascending(value) or not all([rail in known for rail in value]):
        return False
    # There are twice as many points as rails; so each is in one, if none is in two.
    return len(set([point for rail in value for point in rail])) == 2 * len(value)


def need_pairing(tiles, value):
    """Raise InvalidPairing for what is no pairing of a snake."""
    if not is_pairing_of(tiles, value):
        raise InvalidPairing("a pairing of the snake of the line is needed")


def need_snake(cutting, line):
    """Return the snake of a line, and raise an error for what is no cutting, or no line of it."""
    need_cutting(cutting)
    need_line(cutting, line)
    return snake_along(cutting, line)


def is_pairing(cutting, line, value):
    """Return whether any value is a pairing of the snake of a line."""
    return is_pairing_of(need_snake(cutting, line), value)


def count_pairings(cutting, line):
    """Return how many pairings the snake of a line has."""
    shape = shape_of(cutting, line)
    return 1 if shape is None else tally(shape)[0]


def low_pairing(cutting, line):
    """Return the low pairing of the snake of a line."""
    tiles = need_snake(cutting, line)
    return pairing_by_ways(tiles, low_ways(tiles))


def pairings(cutting, line):
    """Return the ascending list of all pairings of the snake of a line."""
    tiles = need_snake(cutting, line)
    need_few(len(tiles), MOST_CROSSED)
    return sorted([pairing_by_ways(tiles, ways) for ways in ways_along(cutting, line)])


def can_flip(rails_here, pairing):
    """Return whether a pairing has two opposite ones of the rails of a tile, which are told in turn."""
    taken = [rail in pairing for rail in rails_here]
    return (taken[0] and taken[2]) or (taken[1] and taken[3])


def flippable(cutting, line, pairing):
    """Return the ascending list of the indices of all tiles at which a pairing can be flipped."""
    tiles = need_snake(cutting, line)
    need_pairing(tiles, pairing)
    return [at for at, here in enumerate(rails_by_tile(tiles)) if can_flip(here, pairing)]


def flipped(cutting, line, pairing, tile):
    """Return a pairing flipped at a tile."""
    fit = flippable(cutting, line, pairing)
    if not is_int(tile) or tile not in fit:
        raise InvalidTile("the index of a tile at which the pairing can be flipped is needed")
    here = rails_by_tile(snake_along(cutting, line))[tile]
    stay = [rail for rail in pairing if rail not in here]
    return tuple(sorted(stay + [rail for rail in here if rail not in pairing]))


def lot_of(cutting, line, pairing):
    """Return the lot of a pairing."""
    tiles = need_snake(cutting, line)
    need_pairing(tiles, pairing)
    return lot_by_pairing(tiles, pairing)


def is_lot(cutting, line, value):
    """Return whether any value is the lot of a pairing of the snake of a line."""
    tiles = snake_along(cutting, line)
    if not are_between(value, 0, len(tiles) - 1) or not is_ascending(value):
        return False
    ways = ways_by_lot(tiles, value)
    shape = shape_of(cutting, line) or ()
    return all([do_fit(word, stands, behind) for word, stands, behind in zip(shape, ways, ways[1:])])


def pairing_by(cutting, line, lot):
    """Return the pairing of the snake of a line with a lot."""
    tiles = need_snake(cutting, line)
    if not is_lot(cutting, line, lot):
        raise InvalidLot("the lot of a pairing of the snake of the line is needed")
    return pairing_by_ways(tiles, ways_by_lot(tiles, lot))


def two_lots(tiles, mine, yours):
    """Return the lots of two pairings of a snake, and raise InvalidPairing for what is none."""
    need_pairing(tiles, mine)
    need_pairing(tiles, yours)
    return (lot_by_pairing(tiles, mine), lot_by_pairing(tiles, yours))


def met_pairing(cutting, line, mine, yours):
    """Return the pairing whose lot is what the lots of two pairings have in common."""
    tiles = need_snake(cutting, line)
    one, other = two_lots(tiles, mine, yours)
    return pairing_by_ways(tiles, ways_by_lot(tiles, [tile for tile in one if tile in other]))


def joined_pairing(cutting, line, mine, yours):
    """Return the pairing whose lot is what is in one of the lots of two pairings at least."""
    tiles = need_snake(cutting, line)
    one, other = two_lots(tiles, mine, yours)
    return pairing_by_ways(tiles, ways_by_lot(tiles, one + other))


def level_counts(cutting, line):
    """Return the tuple of how many pairings of the snake of a line have the level 0, 1 and so on."""
    shape = shape_of(cutting, line)
    return (1,) if shape is None else levels_by(shape)
