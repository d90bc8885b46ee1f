"""Cuttings found by what is told of them."""

from eightworlds.basics import is_between, need_few
from eightworlds.errors import InvalidFacts
from eightworlds.listing import cuttings
from eightworlds.polygons import counts_by_cuts, need_cutting, need_sides, ties
from eightworlds.reaches import need_unlike_corners

MOST_SIDES_TOLD = 9
MOST_FACTS = 8
MOST_COUNT = 40
# For each word of a fact, of what kinds the items behind it are.
KINDS = {"tie": ("corner", "corner", "truth"), "count": ("corner", "count"), "ear": ("corner", "truth")}


def is_item(sides, kind, value):
    """Return whether any value is an item of a fact of such a kind."""
    if kind == "truth":
        return isinstance(value, bool)
    return is_between(value, 0, sides - 1 if kind == "corner" else MOST_COUNT)


def is_fact(sides, value):
    """Return whether any value is a fact of the polygon with so many sides."""
    if not isinstance(value, tuple) or len(value) == 0 or not isinstance(value[0], str) or value[0] not in KINDS:
        return False
    kinds = KINDS[value[0]]
    if len(value) != len(kinds) + 1 or not all([is_item(sides, kind, item) for kind, item in zip(kinds, value[1:])]):
        return False
    return value[0] != "tie" or value[1] < value[2]


def need_facts(sides, value):
    """Raise InvalidFacts for what is no facts."""
    if not isinstance(value, tuple) or len(value) > MOST_FACTS or not all([is_fact(sides, fact) for fact in value]):
        raise InvalidFacts(f"a tuple of at most {MOST_FACTS} facts is needed")


def goes_with(cutting, fact):
    """Return whether a fact goes with a cutting."""
    if fact[0] == "tie":
        _, one, other, truth = fact
        return ((one, other) in ties(cutting)) == truth
    word, corner, told = fact
    many = counts_by_cuts(cutting[0], cutting[1])[corner]
    return many == told if word == "count" else (many == 1) == told


def all_told(sides, facts):
    """Return the list of all cuttings with which all facts go, which are known to be such."""
    return [cutting for cutting in cuttings(sides) if all([goes_with(cutting, fact) for fact in facts])]


def cuttings_told(sides, facts):
    """Return the list of all cuttings with which all facts go, in the order of their numbers."""
    need_sides(sides)
    need_facts(sides, facts)
    need_few(sides, MOST_SIDES_TOLD)
    return all_told(sides, facts)


def surely_tied(sides, facts, first, last):
    """Return whether two corners have a tie in all cuttings told, or in none; None if it is not sure."""
    need_sides(sides)
    need_facts(sides, facts)
    need_unlike_corners(sides, first, last)
    need_few(sides, MOST_SIDES_TOLD)
    pair = (min(first, last), max(first, last))
    tied = [pair in ties(cutting) for cutting in all_told(sides, facts)]
    if not tied or (any(tied) and not all(tied)):
        return None
    return tied[0]


def corners_to_count(cutting, others):
    """Return the first fewest corners at which no other row of counts is the same as that of a cutting."""
    own = counts_by_cuts(cutting[0], cutting[1])
    found = [()]
    while True:
        for corners in found:
            if not any([all([other[corner] == own[corner] for corner in corners]) for other in others]):
                return corners
        found = [corners + (more,) for corners in found for more in range(max((-1,) + corners) + 1, cutting[0])]


def fewest_counts(cutting):
    """Return the first fewest corners at which no other cutting of the polygon has as many pieces."""
    need_cutting(cutting)
    need_few(cutting[0], MOST_SIDES_TOLD)
    others = [counts_by_cuts(other[0], other[1]) for other in cuttings(cutting[0]) if other != cutting]
    return corners_to_count(cutting, others)
