"""Points 78 and 79: partings and great swaps counted, and partings numbered."""

from fractions import Fraction
from math import comb, factorial, prod
from unittest import TestCase

from eightworlds.errors import InvalidBlocks, InvalidNumber, InvalidParting, InvalidPoints
from eightworlds.listing import cuttings, number_of
from eightworlds.overs import parting_of
from eightworlds.partingcounts import (
    count_blocks, count_great, count_partings, count_rising, count_sized, parting_number, parting_with,
)
from tests import helpers
from tests.calls_trees import NO_PARTINGS, SIZES
from tests.slow_partings import ALL_SWAPS, PARTINGS, is_within


def sizes_of(parting):
    return tuple(sorted(map(len, parting)))


class Counts(TestCase):
    def test_partings_and_blocks(self):
        for points, wanted in PARTINGS.items():
            self.assertEqual(count_partings(points), len(wanted))
            for blocks in range(1, points + 1):
                self.assertEqual(count_blocks(points, blocks), len([one for one in wanted if len(one) == blocks]))
            for blocks in (0, points + 1, None, True, -1):
                with self.assertRaises(InvalidNumber):
                    count_blocks(points, blocks)
        self.assertEqual(count_partings(1000), comb(2000, 1000) // 1001)
        self.assertEqual(count_blocks(1000, 400), Fraction(comb(1000, 400) * comb(1000, 399), 1000))
        self.assertEqual(sum(count_blocks(200, blocks) for blocks in range(1, 201)), count_partings(200))

    def test_sizes(self):
        for points, wanted in PARTINGS.items():
            told = [sizes_of(parting) for parting in wanted]
            for sizes in set(told):
                self.assertEqual(count_sized(points, sizes), told.count(sizes))
                self.assertEqual(count_sized(points, sizes[::-1]), told.count(sizes))
        self.assertEqual(count_sized(90, (1,) * 90), 1)
        self.assertEqual(count_sized(1000, (1000,)), 1)
        sizes = tuple(range(1, 41)) + (3, 177)
        self.assertEqual(sum(sizes), 1000)
        below = factorial(1000 - len(sizes) + 1) * prod(factorial(sizes.count(size)) for size in set(sizes))
        self.assertEqual(count_sized(1000, sizes), Fraction(factorial(1000), below))
        for value in SIZES[1]:
            with self.assertRaises(InvalidBlocks):
                count_sized(4, value)
        with self.assertRaises(InvalidBlocks):
            count_sized(91, (1,) * 91)
        with self.assertRaises(InvalidBlocks):
            count_sized(1000, (helpers.GREAT_INT, 1000 - helpers.GREAT_INT))

    def test_rising(self):
        for points in range(1, 5):
            tuples = [(one,) for one in PARTINGS[points]]
            for many in range(1, 5):
                self.assertEqual(count_rising(points, many), len(tuples))
                if len(tuples) < 300:
                    tuples = [some + (one,) for some in tuples for one in PARTINGS[points] if is_within(some[-1], one)]
                else:
                    break
        self.assertEqual([count_rising(points, 1) for points in range(1, 40)], [count_partings(points) for points in range(1, 40)])
        self.assertEqual(count_rising(1000, 1000), Fraction(comb(1001000, 999), 1000))
        self.assertEqual(count_rising(1, 1000), 1)
        for many in helpers.wrong_ints(1, 1000):
            with self.assertRaises(InvalidNumber):
                count_rising(3, many)

    def test_great_swaps(self):
        for points, wanted in ALL_SWAPS.items():
            self.assertEqual(count_great(points), len(wanted))
        self.assertEqual(count_great(1000), 1000 ** 998)

    def test_wrong_points(self):
        for points in helpers.wrong_ints(1, 1000):
            calls = (count_partings, count_great, lambda one: count_blocks(one, 1), lambda one: count_sized(one, (1,)))
            for call in calls + (lambda one: count_rising(one, 1),):
                with self.assertRaises(InvalidPoints):
                    call(points)


class Numbers(TestCase):
    def test_numbers(self):
        for points, wanted in PARTINGS.items():
            told = [parting_with(points, number) for number in range(len(wanted))]
            self.assertEqual(sorted(told), wanted)
            self.assertEqual([parting_number(parting) for parting in told], list(range(len(wanted))))
            self.assertEqual(told, [parting_of(cutting) for cutting in cuttings(points + 2)])
            for number in (-1, len(wanted), None, True):
                with self.assertRaises(InvalidNumber):
                    parting_with(points, number)

    def test_great_ones(self):
        most = count_partings(38)
        for number in (0, 1, most // 7, most // 2, most - 1):
            parting = parting_with(38, number)
            self.assertEqual(parting_number(parting), number)
        for cutting in helpers.GREAT:
            self.assertEqual(parting_number(parting_of(cutting)), number_of(cutting))
        with self.assertRaises(InvalidNumber):
            parting_with(38, most)

    def test_wrong_ones(self):
        for value in NO_PARTINGS[::5]:
            with self.assertRaises(InvalidParting):
                parting_number(value)
        for points in helpers.wrong_ints(1, 38):
            with self.assertRaises(InvalidPoints):
                parting_with(points, 0)
