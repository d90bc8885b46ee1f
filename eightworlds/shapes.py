"""Shapes of snakes, by themselves."""

from math import gcd

from eightworlds.basics import is_between, need_few
from eightworlds.errors import InvalidNumber, InvalidShape

MOST_WORDS = 60
MOST_TALLY = 10 ** 30


def is_shape(value):
    """Return whether any value is a shape."""
    if not isinstance(value, tuple) or len(value) > MOST_WORDS:
        return False
    return all([word in ("right", "up") for word in value])


def need_shape(value):
    """Raise InvalidShape for what is no shape."""
    if not is_shape(value):
        raise InvalidShape(f"a tuple of at most {MOST_WORDS} words right and up is needed")


def tally(shape):
    """Return the tally of a shape."""
    need_shape(shape)
    top, below = 2, 1
    # A pairing has the left rail of the first tile, or its lower one; so much is free then for the tiles behind it.
    for word in shape[::-1]:
        if word == "right":
            top, below = top + below, top
        else:
            top, below = 2 * top - below, top - below
    return (top, below)


def shape_by(top, below):
    """Return the shape with a tally."""
    if not is_between(top, 1, MOST_TALLY) or not is_between(below, 1, MOST_TALLY):
        raise InvalidNumber("two integers from 1 to 10 ** 30 are needed")
    if top <= below or gcd(top, below) > 1:
        raise InvalidNumber("two integers without a common divisor are needed, the former one greater")
    words = []
    while top != 2 * below and len(words) <= MOST_WORDS:
        if 2 * below > top:
            words.append("right")
            top, below = below, top - below
        else:
            words.append("up")
            top, below = top - below, top - 2 * below
    need_few(len(words), MOST_WORDS)
    return tuple(words)


def added_numbers(one, other):
    """Return the sum of two polynomials, item by item."""
    most = max(len(one), len(other))
    longer, further = [list(some) + [0] * (most - len(some)) for some in (one, other)]
    return tuple([number + another for number, another in zip(longer, further)])


def levels_by(shape):
    """Return the tuple of how many pairings of a snake of this shape have the level 0, 1 and so on."""
    need_shape(shape)
    # The levels of the lots of the tiles from one on: of those without this tile, and of those with it.
    without, having = (1,), (0, 1)
    for at, word in reversed(list(enumerate(shape))):
        # By turns along straight parts, and on and on along bends, one tile has to be flipped ahead of the next.
        if (at % 2 == 0) == (word == "up"):
            having = (0,) + added_numbers(without, having)
        else:
            without, having = added_numbers(without, having), (0,) + having
    return added_numbers(without, having)


def cutting_by(shape):
    """Return a cutting, and a line of it whose snake has this shape."""
    need_shape(shape)
    need_few(len(shape), 36)
    sides = len(shape) + 4
    inner, outer = 1, sides - 1
    cuts = [(inner, outer)]
    for at, word in enumerate(shape):
        # At the upper left, cuts of even tiles have their outer corner, those of odd tiles the inner one.
        if (at % 2 == 0) == (word == "right"):
            inner = inner + 1
        else:
            outer = outer - 1
        cuts.append((inner, outer))
    return ((sides, tuple(sorted(cuts))), (0, inner + 1))
