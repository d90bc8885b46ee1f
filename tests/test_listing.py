"""Point 50: listing, numbers and counts."""

from unittest import TestCase

from eightworlds.errors import InvalidNumber, InvalidPrime, InvalidSides, TooMany
from eightworlds.listing import count_cuttings, count_plain, count_rest, cutting_with, cuttings, number_of
from eightworlds.polygons import is_cutting
from eightworlds.turning import plain
from tests import helpers
from tests.helpers import GREAT, TRIANGLE


def slow_over(low, high):
    """All lists of cuts over a base, base included, in the order that the document tells."""
    if high == low + 1:
        return [[]]
    return [
        [(low, high)] + left + right
        for third in range(low + 1, high)
        for left in slow_over(low, third) for right in slow_over(third, high)
    ]


def slow_counts(most):
    """The numbers of cuttings of polygons of 2 sides, of 3 and so on, by the sums of products."""
    counts = [1]
    while len(counts) < most - 1:
        counts.append(sum(one * other for one, other in zip(counts, counts[::-1])))
    return {sides: many for sides, many in enumerate(counts, start=2)}


def factorial_rest(number, prime):
    """How often a prime is in a factorial, and what the factorial without it leaves by the prime."""
    often, rest = 0, 1
    small = [1]
    for factor in range(1, prime):
        small.append(small[-1] * factor % prime)
    while number:
        if number // prime % 2:
            rest = -rest
        rest = rest * small[number % prime] % prime
        number //= prime
        often += number
    return often, rest % prime


def slow_rest(sides, prime):
    """What the number of cuttings leaves by a prime, by factorials."""
    forks = sides - 2
    top, one, other = [factorial_rest(number, prime) for number in (2 * forks, forks, forks + 1)]
    if top[0] > one[0] + other[0]:
        return 0
    below = one[1] * other[1]
    return next(rest for rest in range(prime) if (rest * below - top[1]) % prime == 0)


PRIMES = [number for number in range(2, 998) if all(number % lesser for lesser in range(2, number))]


class Numbers(TestCase):
    def test_all_in_order(self):
        for sides in range(3, 10):
            wanted = [(sides, tuple(sorted(cuts[1:]))) for cuts in slow_over(0, sides - 1)]
            self.assertEqual(cuttings(sides), wanted)
            for number, cutting in enumerate(wanted):
                self.assertEqual(number_of(cutting), number)
                self.assertEqual(cutting_with(sides, number), cutting)
            self.assertEqual(len(wanted), count_cuttings(sides))

    def test_each_cutting_is_listed_once(self):
        for sides in range(3, 8):
            self.assertEqual(sorted(cuttings(sides)), helpers.every_cutting(sides))

    def test_great_ones(self):
        for cutting in GREAT:
            self.assertEqual(cutting_with(cutting[0], number_of(cutting)), cutting)
        for sides in (12, 27, 40):
            most = count_cuttings(sides)
            for number in (0, 1, most // 3, most // 2, most - 2, most - 1):
                self.assertTrue(is_cutting(cutting_with(sides, number)))
                self.assertEqual(number_of(cutting_with(sides, number)), number)
            self.assertEqual(cutting_with(sides, most - 1), helpers.fan(sides))

    def test_bounds(self):
        for sides in (3, 4, 9, 10, 40):
            for number in (-1, count_cuttings(sides), True, False, None, "0", (0,)):
                with self.assertRaises(InvalidNumber):
                    cutting_with(sides, number)
        self.assertEqual(cutting_with(3, 0), TRIANGLE)

    def test_too_many(self):
        for sides in (10, 11, 40):
            with self.assertRaises(TooMany) as caught:
                cuttings(sides)
            self.assertEqual(caught.exception.limit, 9)
        for sides in (2, 41, True, None):
            with self.assertRaises(InvalidSides):
                cuttings(sides)


class Counts(TestCase):
    def test_count_cuttings(self):
        for sides, many in slow_counts(200).items():
            if sides > 2:
                self.assertEqual(count_cuttings(sides), many)

    def test_count_plain(self):
        for sides in range(3, 11):
            forms = {plain((sides, tuple(sorted(cuts[1:])))) for cuts in slow_over(0, sides - 1)}
            self.assertEqual(count_plain(sides), len(forms))

    def test_count_plain_further(self):
        wanted = [82, 228, 733, 2282, 7528, 24834, 83898, 285357, 983244, 3412420]
        self.assertEqual([count_plain(sides) for sides in range(10, 20)], wanted)
        # Nearly all cuttings have no own turns.
        few = count_cuttings(200) // 400
        self.assertTrue(few < count_plain(200) < few + few // 10 ** 20)

    def test_bounds(self):
        for count in (count_cuttings, count_plain):
            self.assertIsInstance(count(200), int)
            for sides in helpers.wrong_ints(3, 200):
                with self.assertRaises(InvalidSides):
                    count(sides)


class Rests(TestCase):
    def test_small_ones(self):
        for sides in range(3, 201):
            for prime in (2, 3, 5, 7, 11, 13, 97, 101, 997):
                self.assertEqual(count_rest(sides, prime), count_cuttings(sides) % prime)

    def test_all_primes(self):
        for prime in PRIMES:
            for sides in (3, 9, 40, 200):
                self.assertEqual(count_rest(sides, prime), count_cuttings(sides) % prime)

    def test_great_ones(self):
        for prime in (2, 3, 5, 7, 499, 991, 997):
            for sides in (10 ** 30, 10 ** 30 - 1, 10 ** 15 + 7, prime ** 5 + 1, 997 ** 10 - 5, 3 ** 60 + 1, 2 ** 99 + 1):
                self.assertEqual(count_rest(sides, prime), slow_rest(sides, prime), (sides, prime))

    def test_rests_other_than_nought(self):
        # The number is odd just if the pieces are one fewer than a power of two.
        for power in range(1, 99):
            self.assertEqual(count_rest(2 ** power + 1, 2), 1)
            self.assertEqual(count_rest(2 ** power + 4, 2), 0)
        rests = [count_rest(997 ** 9 + some, 997) for some in range(60)]
        self.assertTrue(any(rests))

    def test_wrong_primes(self):
        for prime in helpers.wrong_ints(2, 997, 4, 6, 9, 15, 25, 989, 995, 996, 998, 999, 1009, 0, 1, -2, -3):
            if isinstance(prime, int) and not isinstance(prime, bool) and prime in PRIMES:
                continue
            with self.assertRaises(InvalidPrime):
                count_rest(9, prime)
            with self.assertRaises(InvalidSides):
                count_rest(2, prime)

    def test_wrong_sides(self):
        for sides in helpers.wrong_ints(3, 10 ** 30):
            with self.assertRaises(InvalidSides):
                count_rest(sides, 4)
