"""Loose cuttings that turning leaves as they are."""

from math import comb, gcd

from eightworlds.basics import need_number
from eightworlds.listing import need_many_sides
from eightworlds.loose import need_loose
from eightworlds.loosecounts import loose_with, need_not_negative
from eightworlds.turning import moved

MOST_SIDES_TURNED = 60


def with_middle_cut(part, pairs):
    """Return how many loose cuttings halves of so many sides have with a cut in the middle, and so many pairs."""
    # There are as many such cuts as a half has sides; each leaves a polygon with one side more.
    return part * loose_with(part + 1, pairs)


def still_by_turns(sides, many, turns):
    """Return how many loose cuttings with so many cuts so many turns bring round, each leaving them as they are."""
    if turns == 1:
        return loose_with(sides, many)
    part = sides // turns
    if turns == 2 and many % 2 == 1:
        return with_middle_cut(part, many // 2)
    if many % turns > 0:
        return 0
    rounds = many // turns
    # One of each round is chosen; with two turns, those from a corner to that across would be one cut alone.
    found = comb(part - 1, rounds) * comb(part + rounds - 1, rounds) if rounds < part else 0
    return found - with_middle_cut(part, rounds - 1) if turns == 2 else found


def count_still(sides, many, steps):
    """Return how many loose cuttings with so many cuts are the same if they are turned by so many steps."""
    need_many_sides(sides, MOST_SIDES_TURNED)
    need_not_negative(many)
    need_number(steps, -1000, 1000)
    return still_by_turns(sides, many, sides // gcd(sides, steps))


def count_unlike(sides, many):
    """Return how many loose cuttings with so many cuts there are, those that turning leads to taken as one."""
    need_many_sides(sides, MOST_SIDES_TURNED)
    need_not_negative(many)
    return sum([still_by_turns(sides, many, sides // gcd(sides, steps)) for steps in range(sides)]) // sides


def loose_turned(loose, steps):
    """Return a loose cutting turned by so many steps."""
    need_loose(loose)
    need_number(steps, -1000, 1000)
    return moved(loose, 1, steps)


def loose_plain(loose):
    """Return the least of all loose cuttings to which turning alone leads."""
    need_loose(loose)
    return min([moved(loose, 1, steps) for steps in range(loose[0])])
