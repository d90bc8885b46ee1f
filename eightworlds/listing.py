"""Cuttings listed, numbered and counted."""

from math import comb

from eightworlds.basics import is_between, need_few, need_number
from eightworlds.errors import InvalidPrime, InvalidSides
from eightworlds.polygons import need_cutting, need_sides, parts


def ways_of_forks(forks):
    """Return how many cuttings there are with so many pieces, one for none."""
    return comb(2 * forks, forks) // (forks + 1)


def ways_over(low, high):
    """Return how many cuttings there are for the corners from the one to the other one."""
    return ways_of_forks(high - low - 1)


def cuts_numbered(low, high, number):
    """Return the cuts, and the base, of what has this number for the corners from the one to the other one."""
    if high == low + 1:
        return []
    third = low + 1
    ahead = ways_over(low, third) * ways_over(third, high)
    while number >= ahead:
        number = number - ahead
        third = third + 1
        ahead = ways_over(low, third) * ways_over(third, high)
    left, right = divmod(number, ways_over(third, high))
    return [(low, high)] + cuts_numbered(low, third, left) + cuts_numbered(third, high, right)


def cutting_numbered(sides, number):
    """Return the cutting with a number that is known to fit."""
    return (sides, tuple(sorted(cuts_numbered(0, sides - 1, number)[1:])))


def cuttings(sides):
    """Return the list of all cuttings of a polygon, in the order of their numbers."""
    need_sides(sides)
    need_few(sides, 9)
    return [cutting_numbered(sides, number) for number in range(ways_of_forks(sides - 2))]


def number_over(low, high, thirds):
    """Return the number of what lies above a base, from the third corners that all bases have."""
    if high == low + 1:
        return 0
    third = thirds[(low, high)]
    ahead = sum([ways_over(low, lesser) * ways_over(lesser, high) for lesser in range(low + 1, third)])
    left = number_over(low, third, thirds)
    return ahead + left * ways_over(third, high) + number_over(third, high, thirds)


def number_of(cutting):
    """Return the number of a cutting."""
    need_cutting(cutting)
    thirds = {(low, high): third for low, third, high in parts(cutting[0], cutting[1])}
    return number_over(0, cutting[0] - 1, thirds)


def cutting_with(sides, number):
    """Return the cutting with a number."""
    need_sides(sides)
    need_number(number, 0, ways_of_forks(sides - 2) - 1)
    return cutting_numbered(sides, number)


def need_many_sides(sides, most):
    """Raise InvalidSides for what is no number of sides up to another bound."""
    if not is_between(sides, 3, most):
        raise InvalidSides(f"an integer from 3 to {most} is needed")


def count_cuttings(sides):
    """Return how many cuttings a polygon has."""
    need_many_sides(sides, 200)
    return ways_of_forks(sides - 2)


def ways_of_part(sides, many):
    """Return how many cuttings there are for one of so many like parts of the sides; 0 if there are no such."""
    return ways_of_forks(sides // many - 1) if sides % many == 0 else 0


def count_plain(sides):
    """Return how many plain forms the cuttings of a polygon have."""
    need_many_sides(sides, 200)
    # Of each turning and mirroring, it is counted how many cuttings stay as they are.
    halves = (sides // 2) * ways_of_part(sides, 2)
    thirds = (sides // 3) * ways_of_part(sides, 3) * 2
    mirrors = sides * ways_of_forks((sides - 2) // 2)
    return (ways_of_forks(sides - 2) + halves + thirds + mirrors) // (2 * sides)


def is_prime(number):
    """Return whether an integer from 2 on is a prime."""
    return all([number % lesser > 0 for lesser in range(2, number)])


def choices_rest(things, many, prime):
    """Return what the number of choices of so many of the things leaves by a prime."""
    # It is the product over the digits of both by the prime, says Lucas.
    rest = 1
    while many > 0:
        things, one = divmod(things, prime)
        many, other = divmod(many, prime)
        rest = rest * comb(one, other) % prime
    return rest


def count_rest(sides, prime):
    """Return what the number of cuttings leaves by a prime."""
    need_many_sides(sides, 10 ** 30)
    if not is_between(prime, 2, 997) or not is_prime(prime):
        raise InvalidPrime("a prime up to 997 is needed")
    forks = sides - 2
    # This difference needs no division, by which the prime could be lost.
    return (choices_rest(2 * forks, forks, prime) - choices_rest(2 * forks, forks + 1, prime)) % prime
