"""Friezes of whole numbers."""

from eightworlds.basics import are_ints, is_between, need_few, need_number
from eightworlds.errors import InvalidFacts, InvalidFrieze, InvalidPlace
from eightworlds.listing import cuttings
from eightworlds.polygons import MOST_SIDES, counts_at, need_cutting, need_sides
from eightworlds.rows import are_counts, need_row, row_cutting


def numbers_from(row, place, steps):
    """Return the list of the numbers of a row from a place by 0, 1 and up to so many steps."""
    numbers = [0, 1]
    for step in range(1, steps):
        numbers.append(numbers[-1] * row[(place + step) % len(row)] - numbers[-2])
    return numbers[:steps + 1]


def row_number(row, place, steps):
    """Return the number of a row from a place by some steps."""
    need_row(row)
    if not is_between(place, 0, len(row) - 1):
        raise InvalidPlace("a place of the row is needed")
    need_number(steps, 0, 60)
    return numbers_from(row, place, steps)[steps]


def frieze_of_counts(row):
    """Return the frieze of the cutting with these counts."""
    sides = len(row)
    upper = [numbers_from(row, corner, sides - 1 - corner) for corner in range(sides)]
    corners = range(sides)
    return tuple([tuple([upper[min(one, other)][abs(one - other)] for other in corners]) for one in corners])


def frieze(cutting):
    """Return the frieze of a cutting."""
    return frieze_of_counts(counts_at(cutting))


def cutting_by_frieze(value):
    """Return the cutting whose frieze any value is, or None."""
    if not isinstance(value, tuple) or not 3 <= len(value) <= MOST_SIDES:
        return None
    sides = len(value)
    if not all([are_ints(numbers, sides) for numbers in value]):
        return None
    # The number of the two corners beside one is how many pieces it has.
    row = tuple([value[corner - 1][(corner + 1) % sides] for corner in range(sides)])
    if not are_counts(row) or value != frieze_of_counts(row):
        return None
    return row_cutting(row)


def is_frieze(value):
    """Return whether any value is the frieze of some cutting."""
    return cutting_by_frieze(value) is not None


def frieze_cutting(value):
    """Return the cutting whose frieze is given."""
    cutting = cutting_by_frieze(value)
    if cutting is None:
        raise InvalidFrieze("the frieze of a cutting is needed")
    return cutting


def frieze_determinant(cutting):
    """Return the determinant of the frieze of a cutting."""
    need_cutting(cutting)
    # It is the same for all cuttings with so many pieces.
    determinant = -1
    for _ in range(cutting[0] - 2):
        determinant = determinant * -2
    return determinant


def is_number_fact(sides, value):
    """Return whether any value is a triple of two ascending corners and a number."""
    if not are_ints(value, 3):
        return False
    one, other, number = value
    return 0 <= one < other < sides and 0 <= number <= 999


def friezes_with(sides, facts):
    """Return the ascending list of all friezes that have some numbers for some corners."""
    need_sides(sides)
    if not isinstance(facts, tuple) or len(facts) > 6 or not all([is_number_fact(sides, fact) for fact in facts]):
        raise InvalidFacts("a tuple of up to 6 triples of two corners and a number is needed")
    need_few(sides, 8)
    some = [frieze(cutting) for cutting in cuttings(sides)]
    return sorted([one for one in some if all([one[low][high] == number for low, high, number in facts])])
