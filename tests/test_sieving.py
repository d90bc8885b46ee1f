"""Point 91: loose cuttings that turning leaves as they are."""

from cmath import exp, pi
from unittest import TestCase

from eightworlds.errors import InvalidLoose, InvalidNumber, InvalidSides
from eightworlds.loose import is_loose
from eightworlds.loosecounts import count_loose, loose_cuttings
from eightworlds.sieving import count_still, count_unlike, loose_plain, loose_turned
from eightworlds.turning import turned
from tests import helpers
from tests.helpers import SMALL
from tests.slow_ways import GREAT_LOOSE, LITTLE_LOOSE, LOOSE


def slow_turned(loose, steps):
    """A loose cutting turned, by the words of the document."""
    sides, cuts = loose
    return (sides, tuple(sorted(tuple(sorted((corner + steps) % sides for corner in cut)) for cut in cuts)))


def bracket(number, at):
    """What 1, q and so on up to one power less than a number come to."""
    return sum(at ** power for power in range(number))


def multiplied(one, other):
    """The product of two polynomials."""
    found = [0] * (len(one) + len(other) - 1)
    for at, mine in enumerate(one):
        for place, yours in enumerate(other):
            found[at + place] += mine * yours
    return found


def divided(one, other):
    """A polynomial divided by another one that has the power 0 once, and leaves no rest."""
    rest, found = list(one), []
    for at in range(len(one) - len(other) + 1):
        found.append(rest[at])
        for place, yours in enumerate(other):
            rest[at + place] -= found[-1] * yours
    assert not any(rest)
    return found


def sieve(sides, many):
    """The polynomial whose values at turns are how many loose cuttings stay (Reiner, Stanton, White)."""
    top, below = [1], [1]
    # It is the choices of so many out of the sides less 3, and of one more than so many, out of the sides and so many.
    for step in range(many):
        top, below = multiplied(top, [1] * (sides - 3 - step)), multiplied(below, [1] * (step + 1))
    for step in range(many + 1):
        top, below = multiplied(top, [1] * (sides + many - step)), multiplied(below, [1] * (step + 1))
    return divided(top, multiplied(below, [1] * (sides + many)))


class Still(TestCase):
    def test_all_of_up_to_seven_sides(self):
        for sides, some in LOOSE.items():
            for steps in range(-sides, 2 * sides + 1):
                for many in range(sides):
                    wanted = [loose for loose in some if len(loose[1]) == many and slow_turned(loose, steps) == loose]
                    self.assertEqual(count_still(sides, many, steps), len(wanted))

    def test_eight_sides(self):
        for many in range(6):
            some = loose_cuttings(8, many)
            for steps in range(8):
                wanted = [loose for loose in some if slow_turned(loose, steps) == loose]
                self.assertEqual(count_still(8, many, steps), len(wanted))
            self.assertEqual(count_unlike(8, many), len({loose_plain(loose) for loose in some}))

    def test_sieving(self):
        for sides in (9, 10, 12, 15, 16):
            for many in range(sides - 2):
                polynomial = sieve(sides, many)
                for steps in range(sides):
                    at = exp(2j * pi * steps / sides)
                    value = sum(number * at ** power for power, number in enumerate(polynomial))
                    told = count_still(sides, many, steps)
                    self.assertLess(abs(value - told), 0.001 + told / 10 ** 6)

    def test_great_ones(self):
        for sides in (3, 59, 60):
            for many in (0, 1, 2, 3, sides - 4, sides - 3, sides - 2, helpers.GREAT_INT):
                if many < 0:
                    continue
                self.assertEqual(count_still(sides, many, 0), count_loose(sides, many))
                for steps in (1, 7, 30, -30, 999):
                    self.assertEqual(count_still(sides, many, steps), count_still(sides, many, steps % sides))
                    self.assertEqual(count_still(sides, many, steps), count_still(sides, many, -steps))
        self.assertEqual([count_still(60, many, 30) for many in (0, 1)], [1, 30])
        self.assertEqual([count_still(59, many, 5) for many in (0, 1, 2, 56)], [1, 0, 0, 0])


class Unlike(TestCase):
    def test_all_of_up_to_seven_sides(self):
        for sides, some in LOOSE.items():
            for many in range(sides):
                rounds = {
                    frozenset(slow_turned(loose, steps) for steps in range(sides)) for loose in some if len(loose[1]) == many
                }
                self.assertEqual(count_unlike(sides, many), len(rounds))

    def test_each_turning_counts(self):
        for sides in (8, 13, 30, 59, 60):
            for many in (0, 1, 2, 9, sides - 3, sides):
                total = sum(count_still(sides, many, steps) for steps in range(sides))
                self.assertEqual(total % sides, 0)
                self.assertEqual(count_unlike(sides, many), total // sides)
            self.assertEqual(count_unlike(sides, 0), 1)
            self.assertEqual(count_unlike(sides, 1), (sides - 2) // 2)
            self.assertEqual(count_unlike(sides, helpers.GREAT_INT), 0)


class Turned(TestCase):
    def test_turned_and_plain(self):
        for loose in LITTLE_LOOSE + LOOSE[7][::6] + GREAT_LOOSE:
            for steps in (0, 1, -1, 2, 39, 1000, -1000):
                told = loose_turned(loose, steps)
                self.assertEqual(told, slow_turned(loose, steps))
                self.assertIs(is_loose(told), True)
            told = loose_plain(loose)
            self.assertEqual(told, min(slow_turned(loose, steps) for steps in range(loose[0])))
            self.assertEqual(loose_plain(loose_turned(loose, 3)), told)
        for cutting in SMALL:
            self.assertEqual(loose_turned(cutting, 2), turned(cutting, 2))

    def test_errors(self):
        for wrong in helpers.wrong_ints(-1000, 1000):
            with self.assertRaises(InvalidNumber):
                loose_turned((6, ()), wrong)
            with self.assertRaises(InvalidNumber):
                count_still(6, 1, wrong)
        for wrong in helpers.wrong_ints(3, 60):
            for call in (lambda sides: count_still(sides, -1, None), lambda sides: count_unlike(sides, None)):
                with self.assertRaises(InvalidSides):
                    call(wrong)
        for wrong in (-1, True, None, "1"):
            for call in (lambda many: count_still(6, many, None), lambda many: count_unlike(60, many)):
                with self.assertRaises(InvalidNumber):
                    call(wrong)
        for call in (loose_plain, lambda loose: loose_turned(loose, None)):
            with self.assertRaises(InvalidLoose):
                call((6, ((0, 1),)))
