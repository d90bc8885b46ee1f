"""Point 56: chains."""

from fractions import Fraction
from itertools import product
from math import gcd
from unittest import TestCase

from eightworlds.chains import chain_partner, minus_chain, minus_value, plus_chain, plus_value, two_ones
from eightworlds.errors import InvalidChain, InvalidFraction, TooMany
from eightworlds.polygons import ears
from eightworlds.rows import are_counts, row_cutting
from tests import helpers
from tests.helpers import SMALL

WRONG_CHAINS = helpers.OTHERS + helpers.INTS + list(helpers.spoiled((2, 3, 4), lengths=False)) + [
    (), (1,) * 13, (100,), (-100,), (2, 100), (99, -100), [2, 3], (2, True),
]
WRONG_FRACTIONS = helpers.OTHERS + helpers.INTS + list(helpers.spoiled((7, 5))) + [
    (5, 7), (0, 1), (1, 0), (-7, 5), (7, -5), (-7, -5), (14, 10), (10 ** 30 + 1, 1), (10 ** 30, 10), (2, 2), (0, 0), (1, 2),
]
FRACTIONS = [(top, below) for top in range(1, 41) for below in range(1, top + 1) if gcd(top, below) == 1]


def slow_value(chain, sign):
    """The value of a chain, None standing for (1, 0)."""
    if len(chain) == 1:
        return Fraction(chain[0])
    behind = slow_value(chain[1:], sign)
    if behind is None:
        return Fraction(chain[0])
    return None if behind == 0 else chain[0] + sign / behind


def pair_of(value):
    """A fraction as a pair."""
    return (1, 0) if value is None else (value.numerator, value.denominator)


class Values(TestCase):
    def test_small_chains(self):
        for many in range(1, 6):
            for chain in product(range(-2, 3), repeat=many):
                self.assertEqual(minus_value(chain), pair_of(slow_value(chain, -1)), chain)
                self.assertEqual(plus_value(chain), pair_of(slow_value(chain, 1)), chain)

    def test_great_chains(self):
        for chain in ((99,) * 12, (-99,) * 12, (99, -99) * 6, (0,) * 12, (1,) * 12, (2,) * 12, (0, 1) * 6, (-1,) * 11, (5,)):
            self.assertEqual(minus_value(chain), pair_of(slow_value(chain, -1)))
            self.assertEqual(plus_value(chain), pair_of(slow_value(chain, 1)))

    def test_wrong_chains(self):
        for chain in WRONG_CHAINS:
            with self.assertRaises(InvalidChain):
                minus_value(chain)
            with self.assertRaises(InvalidChain):
                plus_value(chain)


class Chains(TestCase):
    def test_small_fractions(self):
        for fraction in FRACTIONS:
            for chain, sign in ((minus_chain(fraction), -1), (plus_chain(fraction), 1)):
                self.assertIsInstance(chain, tuple)
                self.assertEqual(pair_of(slow_value(chain, sign)), fraction)
                if fraction == (1, 1):
                    self.assertEqual(chain, (1,))
                elif sign == -1:
                    self.assertTrue(min(chain) > 1)
                else:
                    self.assertTrue(min(chain) > 0 and chain[-1] > 1)

    def test_great_fractions(self):
        great = 10 ** 30
        self.assertEqual(minus_chain((great, 1)), (great,))
        self.assertEqual(plus_chain((great, 1)), (great,))
        self.assertEqual(plus_chain((great, great - 1)), (1, great - 1))
        self.assertEqual(minus_chain((201, 200)), (2,) * 200)
        one, other = 1, 1
        while one + other <= great:
            one, other = one + other, one
        for fraction in ((one, other), (one, one - other), (great, 3 ** 60), (great, 7 ** 30), (great - 1, great // 2 - 3)):
            if gcd(*fraction) == 1 and fraction[0] >= fraction[1]:
                self.assertEqual(pair_of(slow_value(plus_chain(fraction), 1)), fraction)
                try:
                    self.assertEqual(pair_of(slow_value(minus_chain(fraction), -1)), fraction)
                except TooMany as caught:
                    self.assertEqual(caught.limit, 200)
        self.assertEqual(set(plus_chain((one, other))), {1, 2})
        self.assertTrue(len(minus_chain((one, other))) < 80)

    def test_too_many(self):
        for fraction in ((202, 201), (10 ** 30, 10 ** 30 - 1), (10 ** 30 - 2, 10 ** 30 - 3), (3 * 10 ** 29 + 1, 10 ** 29)):
            with self.assertRaises(TooMany) as caught:
                minus_chain(fraction)
            self.assertEqual(caught.exception.limit, 200)

    def test_partner(self):
        for top, below in FRACTIONS[1:]:
            self.assertEqual(chain_partner((top, below)), (top, top - below))
        self.assertEqual(chain_partner((10 ** 30, 1)), (10 ** 30, 10 ** 30 - 1))

    def test_wrong_fractions(self):
        for fraction in WRONG_FRACTIONS:
            for call in (minus_chain, plus_chain, chain_partner, two_ones):
                with self.assertRaises(InvalidFraction):
                    call(fraction)
        for call in (chain_partner, two_ones):
            with self.assertRaises(InvalidFraction):
                call((1, 1))


class TwoOnes(TestCase):
    def test_they_are_counts_with_two_ears(self):
        for fraction in FRACTIONS[1:] + [(610, 377), (39, 1), (37, 36), (38, 37), (39, 38)]:
            try:
                told = two_ones(fraction)
            except TooMany as caught:
                self.assertEqual(caught.limit, 40)
                self.assertTrue(len(minus_chain(fraction)) + len(minus_chain(chain_partner(fraction))) > 38)
                continue
            partner = chain_partner(fraction)
            self.assertEqual(told, (1,) + minus_chain(fraction) + (1,) + minus_chain(partner)[::-1])
            self.assertTrue(are_counts(told))
            self.assertEqual(ears(row_cutting(told)), [0, 1 + len(minus_chain(fraction))])

    def test_all_with_two_ears_come_so(self):
        for cutting in SMALL + helpers.every_cutting(8):
            row = helpers.slow_counts(cutting)
            if row.count(1) == 2:
                first = row.index(1)
                row = row[first:] + row[:first]
                self.assertEqual(two_ones(minus_value(row[1:row.index(1, 1)])), row)

    def test_the_limit(self):
        self.assertEqual(len(two_ones((38, 1))), 40)
        self.assertEqual(len(two_ones((38, 37))), 40)
        for fraction in ((39, 1), (39, 38), (10 ** 30, 1), (10 ** 30, 10 ** 30 - 1), (10 ** 30, 7 ** 30)):
            with self.assertRaises(TooMany) as caught:
                two_ones(fraction)
            self.assertEqual(caught.exception.limit, 40)
