"""Point 58: measures."""

from fractions import Fraction
from math import gcd
from unittest import TestCase

from eightworlds.chains import minus_chain, minus_value
from eightworlds.errors import InvalidChain, InvalidFraction, InvalidNumber
from eightworlds.measures import measure_of, measured, measured_by
from tests import helpers

FRACTIONS = [(top, below) for top in range(1, 31) for below in range(1, top + 1) if gcd(top, below) == 1]


def slow_parts(chain):
    """The measured parts of a chain, by the words of the document."""
    if len(chain) == 1:
        return [1] * chain[0], [1]
    top, below = slow_parts(chain[1:])
    item = chain[0]
    whole = [0] * (len(top) + item - 1)
    for power in range(item):
        for at, number in enumerate(top):
            whole[power + at] += number
    for at, number in enumerate([0] * (item - 1) + below):
        whole[at] -= number
    while whole[-1] == 0:
        whole.pop()
    return whole, top


def worth(polynomial, number):
    """The value of a polynomial at a number."""
    return sum(factor * number ** power for power, factor in enumerate(polynomial))


class Measures(TestCase):
    def test_measure_of(self):
        for number in range(1, 61):
            self.assertEqual(measure_of(number), (1,) * number)
        for number in helpers.wrong_ints(1, 60):
            with self.assertRaises(InvalidNumber):
                measure_of(number)

    def test_small_fractions(self):
        for fraction in FRACTIONS:
            chain = minus_chain(fraction)
            told = measured(fraction)
            self.assertEqual(told, tuple(map(tuple, slow_parts(chain))))
            if fraction != (1, 1) and len(chain) < 13 and max(chain) < 21:
                self.assertEqual(measured_by(chain), told)
            for part, number in zip(told, fraction):
                self.assertTrue(min(part) >= 0)
                self.assertEqual(sum(part), number)
                self.assertTrue(part[-1] > 0)

    def test_worths_at_numbers(self):
        for fraction in FRACTIONS:
            top, below = measured(fraction)
            for number in (2, 3, 7):
                value = None
                for item in minus_chain(fraction)[::-1]:
                    whole = Fraction(worth((1,) * item, number))
                    value = whole if value is None else whole - Fraction(number) ** (item - 1) / value
                self.assertEqual(Fraction(worth(top, number), worth(below, number)), value)

    def test_great_ones(self):
        self.assertEqual(measured((200, 1)), ((1,) * 200, (1,)))
        self.assertEqual(measured((1, 1)), ((1,), (1,)))
        for fraction in ((200, 199), (200, 101), (199, 100), (144, 89), (197, 3), (200, 77)):
            for part, number in zip(measured(fraction), fraction):
                self.assertTrue(min(part) >= 0)
                self.assertEqual(sum(part), number)
        self.assertEqual(measured((200, 199)), ((1,) * 200, (1,) * 199))

    def test_long_chains(self):
        for chain in ((2,) * 12, (20,) * 12, (2, 20) * 6, (20, 2) * 6, (3, 7, 2, 2, 5), (2,), (20,)):
            told = measured_by(chain)
            self.assertEqual(told, tuple(map(tuple, slow_parts(chain))))
            self.assertEqual((sum(told[0]), sum(told[1])), minus_value(chain))

    def test_wrong_fractions(self):
        wrong = helpers.OTHERS + helpers.INTS + list(helpers.spoiled((7, 5))) + [
            (5, 7), (0, 1), (1, 0), (201, 1), (201, 200), (10, 4), (2, 2), (-1, 1), (7, -5), (10 ** 30, 1), (1, 2),
        ]
        for fraction in wrong:
            with self.assertRaises(InvalidFraction):
                measured(fraction)

    def test_wrong_chains(self):
        wrong = helpers.OTHERS + helpers.INTS + list(helpers.spoiled((2, 3), lengths=False)) + [
            (), (1,), (1, 2), (2, 1), (21,), (2, 21), (0,), (-2,), (2,) * 13, [2, 2], (2, True),
        ]
        for chain in wrong:
            with self.assertRaises(InvalidChain):
                measured_by(chain)
