"""Point 65: sums."""

from fractions import Fraction
from math import prod
from unittest import TestCase

from eightworlds.errors import InvalidCutting, InvalidLengths, InvalidSum
from eightworlds.sums import added, is_sum, multiplied, value_by
from tests import helpers
from tests.helpers import GREAT, P, Q, TRIANGLE, Z, fan
from tests.test_lengths import some_lengths


def made_sum(ties, many, seed, most=60, greatest=10 ** 30):
    """A sum of so many pairs, made by counting on and on."""
    numbers, state = {}, seed
    while len(numbers) < many:
        powers = []
        for _ in range(ties):
            state = (state * 6364136223846793005 + 1442695040888963407) % 2 ** 64
            powers.append((state >> 33) % (2 * most + 1) - most)
        numbers[tuple(powers)] = (state * 10 ** 12 + seed) % greatest * (-1) ** (state >> 40) or 1
    return tuple(sorted(numbers.items()))


def as_sum(numbers):
    return tuple(sorted((powers, number) for powers, number in numbers.items() if number))


def slow_added(one, other):
    numbers = dict(one)
    for powers, number in other:
        numbers[powers] = numbers.get(powers, 0) + number
    return as_sum(numbers)


def slow_multiplied(one, other):
    numbers = {}
    for powers, number in one:
        for others, times in other:
            key = tuple(map(sum, zip(powers, others)))
            numbers[key] = numbers.get(key, 0) + number * times
    return as_sum(numbers)


def slow_value(some, lengths):
    own = [Fraction(*share) for share in lengths]
    value = sum(number * prod(share ** power for share, power in zip(own, powers)) for powers, number in some)
    return (Fraction(value).numerator, Fraction(value).denominator)


def cases(cutting):
    """Some pairs of sums of a cutting."""
    ties = 2 * cutting[0] - 3
    for one, other, most in ((0, 0, 1), (0, 3, 1), (3, 0, 60), (1, 1, 60), (9, 9, 1), (12, 7, 2), (20, 20, 60), (8, 3, 0)):
        if most:
            yield made_sum(ties, one, 7, most, 5), made_sum(ties, other, 8, most, 4)
        else:
            yield made_sum(ties, 1, 1, 0), made_sum(ties, 1, 2, 0)


class Sums(TestCase):
    def test_is_sum(self):
        for cutting in (TRIANGLE, Q, P, Z, fan(40)):
            ties = 2 * cutting[0] - 3
            self.assertIs(is_sum(cutting, ()), True)
            for many in (1, 2, 50, 400):
                some = made_sum(ties, many, many)
                self.assertIs(is_sum(cutting, some), True)
                self.assertIs(is_sum(cutting, list(some)), False)
                self.assertIs(is_sum(cutting, some + some[:1]), False)
                if many > 1:
                    self.assertIs(is_sum(cutting, some[::-1]), False)
            self.assertIs(is_sum(cutting, made_sum(ties, 401, 3)), False)
            for power, number in ((60, 10 ** 30), (-60, -10 ** 30), (60, -1), (-60, 1)):
                self.assertIs(is_sum(cutting, (((power,) * ties, number),)), True)
            for power, number in ((61, 1), (-61, 1), (0, 0), (0, 10 ** 30 + 1), (0, -10 ** 30 - 1), (True, 1), (0, True), (None, 1), (0, None)):
                self.assertIs(is_sum(cutting, (((0,) * (ties - 1) + (power,), number),)), False)
            for many in (0, ties - 1, ties + 1):
                self.assertIs(is_sum(cutting, (((0,) * many, 1),)), False)
            self.assertIs(is_sum(cutting, (((0,) * ties, 1), ((0,) * ties, 2))), False)
            self.assertIs(is_sum(cutting, (((0,) * ties, 1, 1),)), False)

    def test_added_and_multiplied(self):
        for cutting in (TRIANGLE, Q, Z, fan(9)):
            for one, other in cases(cutting):
                for mine, yours in ((one, other), (other, one), (one, one)):
                    self.assertEqual(added(cutting, mine, yours), slow_added(mine, yours))
                    self.assertEqual(multiplied(cutting, mine, yours), slow_multiplied(mine, yours))

    def test_noughts_go(self):
        some = made_sum(5, 9, 4)
        turned = tuple((powers, -number) for powers, number in some)
        self.assertEqual(added(Q, some, turned), ())
        self.assertEqual(multiplied(Q, some, ()), ())
        plus, less = (((0,) * 5, 1), ((1,) + (0,) * 4, 1)), (((0,) * 5, -1), ((1,) + (0,) * 4, 1))
        self.assertEqual(multiplied(Q, plus, less), (((0,) * 5, -1), ((2,) + (0,) * 4, 1)))

    def test_the_greatest_powers(self):
        low, high = (((-60,) * 5, 10 ** 30),), (((60,) * 5, -10 ** 30),)
        self.assertEqual(multiplied(Q, low, low), (((-120,) * 5, 10 ** 60),))
        self.assertEqual(multiplied(Q, high, low), (((0,) * 5, -10 ** 60),))
        ends = (((-60, 60, -60, 60, -60), 1), ((60, -60, 60, -60, 60), 1))
        self.assertEqual(multiplied(Q, ends, ends), (((-120, 120, -120, 120, -120), 1), ((0,) * 5, 2), ((120, -120, 120, -120, 120), 1)))

    def test_results_can_have_more_pairs(self):
        one, other = made_sum(7, 30, 1), made_sum(7, 40, 2)
        told = multiplied(P, one, other)
        self.assertEqual(told, slow_multiplied(one, other))
        self.assertTrue(len(told) > 400)
        self.assertEqual(len(added(P, made_sum(7, 400, 1), made_sum(7, 400, 2))), 800)
        with self.assertRaises(InvalidSum):
            added(P, told, one)


class Values(TestCase):
    def test_value_by(self):
        for cutting in (TRIANGLE, Q, Z, fan(9)):
            for one, other in cases(cutting):
                for seed in (1, 5):
                    lengths = some_lengths(cutting, seed)
                    self.assertEqual(value_by(cutting, one, lengths), slow_value(one, lengths))
                    self.assertEqual(value_by(cutting, other, lengths), slow_value(other, lengths))
        self.assertEqual(value_by(Q, (), ((1, 2),) * 5), (0, 1))
        self.assertEqual(value_by(TRIANGLE, (((2, -3, 0), 12),), ((1, 2), (3, 1), (7, 1))), (1, 9))
        self.assertEqual(value_by(TRIANGLE, (((2, -3, 0), -1), ((2, -3, 1), 1)), ((1, 2), (3, 1), (1, 1))), (0, 1))

    def test_the_value_of_a_product_is_the_product_of_the_values(self):
        for cutting in GREAT[:6]:
            ties, lengths = 2 * cutting[0] - 3, some_lengths(cutting, 2)
            one, other = made_sum(ties, 6, 1, 3, 9), made_sum(ties, 5, 2, 3, 9)
            values = [Fraction(*value_by(cutting, some, lengths)) for some in (one, other)]
            self.assertEqual(Fraction(*value_by(cutting, multiplied(cutting, one, other), lengths)), values[0] * values[1])
            self.assertEqual(Fraction(*value_by(cutting, added(cutting, one, other), lengths)), sum(values))


class WrongSums(TestCase):
    def test_order_of_errors(self):
        fine, ones = (((0,) * 5, 1),), ((1, 1),) * 5
        for call in (added, multiplied):
            with self.assertRaises(InvalidCutting):
                call(None, None, None)
            with self.assertRaises(InvalidSum):
                call(Q, fine, fine[0])
            with self.assertRaises(InvalidSum):
                call(Q, (((0,) * 7, 1),), fine)
        with self.assertRaises(InvalidSum):
            value_by(Q, None, None)
        with self.assertRaises(InvalidLengths):
            value_by(Q, fine, ones[1:])
        self.assertEqual(value_by(Q, fine, ones), (1, 1))
