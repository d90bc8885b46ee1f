"""Tables of cuttings: which ties follow which cuts in their pieces, and how exchanges turn them."""

from eightworlds.basics import is_same
from eightworlds.errors import InvalidWay
from eightworlds.exchanges import cut_behind, cuttings_along
from eightworlds.listing import cuttings
from eightworlds.polygons import need_cut, need_cutting, pieces, ties

MOST_CUTS = 30
MOST_SIDES_BY_TABLE = 8


def table(cutting):
    """Return the table of a cutting."""
    follows = {}
    for low, middle, high in pieces(cutting):
        first, second, third = (low, middle), (middle, high), (low, high)
        # No two ties are in two pieces together.
        for one, other in ((first, second), (second, third), (third, first)):
            follows[(one, other)] = 1
            follows[(other, one)] = -1
    known = ties(cutting)
    return tuple([tuple([follows.get((cut, tie), 0) for tie in known]) for cut in cutting[1]])


def cutting_with_table(value):
    """Return a cutting of at most 8 sides whose table any value is, or None."""
    if not isinstance(value, tuple) or len(value) + 3 > MOST_SIDES_BY_TABLE:
        return None
    fit = [cutting for cutting in cuttings(len(value) + 3) if is_same(value, table(cutting))]
    return fit[0] if fit else None


def item_turned(item, one, other):
    """Return an item of a table, turned, from those of its row at the cut, and of the cut's row in its column."""
    if one > 0 and other > 0:
        return item + one * other
    if one < 0 and other < 0:
        return item - one * other
    return item


def turned_at(rows, place, column):
    """Return a table turned at the cut with this place among the cuts, and this column among the ties."""
    base = rows[place]
    found = []
    for at, row in enumerate(rows):
        if at == place:
            found.append(tuple([-item for item in row]))
        else:
            behind = [item_turned(item, row[column], other) for item, other in zip(row, base)]
            behind[column] = -row[column]
            found.append(tuple(behind))
    return tuple(found)


def table_turned(cutting, cut):
    """Return the table of a cutting turned at a cut."""
    need_cutting(cutting)
    need_cut(cutting, cut)
    return turned_at(table(cutting), cutting[1].index(cut), ties(cutting).index(cut))


def need_way(cutting, value):
    """Return the cuttings along a way, the first one too, and raise InvalidWay for what is none."""
    along = cuttings_along(cutting, value, MOST_CUTS)
    if along is None:
        raise InvalidWay(f"a way of at most {MOST_CUTS} cuts from the cutting is needed")
    return along


def places_along(cutting, way, along):
    """Return the places at which a way exchanges cuts, in order, and the cuts at all places behind it."""
    order = list(cutting[1])
    places = []
    for cut, ahead in zip(way, along):
        place = order.index(cut)
        places.append(place)
        order[place] = cut_behind(ahead, cut)
    return (places, tuple(order))


def table_behind(cutting, way):
    """Return the table of a cutting turned at all cuts of a way, one after another."""
    need_cutting(cutting)
    along = need_way(cutting, way)
    columns = [ties(cutting).index(cut) for cut in cutting[1]]
    rows = table(cutting)
    for place in places_along(cutting, way, along)[0]:
        rows = turned_at(rows, place, columns[place])
    return rows


def order_behind(cutting, way):
    """Return the tuple of the cuts at the places of the rows of the table behind a way."""
    need_cutting(cutting)
    along = need_way(cutting, way)
    return places_along(cutting, way, along)[1]
