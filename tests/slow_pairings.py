"""Pairings, found by trying all rails at the first free point."""


def all_pairings(rails):
    """All ascending tuples of rails such that each point is in just one of them."""
    points = sorted({point for rail in rails for point in rail})

    def go_on(free, taken):
        if not free:
            return [tuple(sorted(taken))]
        return [
            whole for rail in rails if rail[0] == free[0] and rail[1] in free
            for whole in go_on([point for point in free if point not in rail], taken + [rail])
        ]

    return sorted(go_on(points, []))


def tile_rails(spot):
    """The left, right, lower and upper rail of the tile at a spot."""
    across, up = spot
    return (
        ((across, up), (across, up + 1)), ((across + 1, up), (across + 1, up + 1)),
        ((across, up), (across + 1, up)), ((across, up + 1), (across + 1, up + 1)),
    )


def spots_of(shape):
    """The spots of the tiles of a snake of a shape."""
    spots = [(0, 0)]
    for word in shape:
        across, up = spots[-1]
        spots.append((across + 1, up) if word == "right" else (across, up + 1))
    return spots


def levels_of(shape):
    """The level of each pairing of a snake of a shape, by flips from the low one, layer by layer."""
    tiles = [tile_rails(spot) for spot in spots_of(shape)]
    seen = [rail for tile in tiles for rail in tile]
    pairings = all_pairings(sorted(set(seen)))
    low = next(
        pairing for pairing in pairings
        if tiles[0][0] in pairing and all(seen.count(rail) == 1 for rail in pairing)
    )
    levels = {low: 0}
    layer = [low]
    while layer:
        found = []
        for pairing in layer:
            for left, right, lower, upper in tiles:
                for here, there in (((left, right), (lower, upper)), ((lower, upper), (left, right))):
                    if here[0] in pairing and here[1] in pairing:
                        other = tuple(sorted(set(pairing) - set(here) | set(there)))
                        if other not in levels:
                            levels[other] = levels[pairing] + 1
                            found.append(other)
        layer = found
    assert sorted(levels) == pairings
    return levels


def flips_of(pairing, tiles):
    """All pairs of the index of a tile at which a pairing can be flipped, and the pairing then."""
    found = []
    for at, (left, right, lower, upper) in enumerate(tiles):
        for here, there in (((left, right), (lower, upper)), ((lower, upper), (left, right))):
            if set(here) <= set(pairing):
                found.append((at, tuple(sorted(set(pairing) - set(here) | set(there)))))
    return found


def lots_of(spots):
    """The lot of each pairing of a snake with these spots, checked over all ways with as few flips as can be."""
    tiles = [tile_rails(spot) for spot in spots]
    if not tiles:
        return {(): ()}
    seen = [rail for tile in tiles for rail in tile]
    low = next(
        pairing for pairing in all_pairings(sorted(set(seen)))
        if tiles[0][0] in pairing and all(seen.count(rail) == 1 for rail in pairing)
    )
    lots = {low: set()}
    layer = [low]
    while layer:
        behind = {}
        for pairing in layer:
            for at, other in flips_of(pairing, tiles):
                if other not in lots:
                    assert at not in lots[pairing]
                    lot = lots[pairing] | {at}
                    assert behind.setdefault(other, lot) == lot
        lots.update(behind)
        layer = list(behind)
    return {pairing: tuple(sorted(lot)) for pairing, lot in lots.items()}
