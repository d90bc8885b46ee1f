"""Points 89 and 90: loose cuttings counted, and plate sums."""

from itertools import product
from math import comb, prod
from unittest import TestCase

from eightworlds.errors import InvalidCounts, InvalidNumber, InvalidSides, InvalidWorths, TooMany
from eightworlds.listing import count_cuttings
from eightworlds.loose import count_full, face_counts, is_loose, plate_counts, plates
from eightworlds.loosecounts import count_loose, count_with_plates, loose_cuttings, plate_sums, turned_counts
from tests import helpers
from tests.slow_ways import LOOSE


def without_noughts(counts):
    """Plate counts without noughts at the end."""
    while counts and counts[-1] == 0:
        counts = counts[:-1]
    return counts


def slow_plate_sums(weights):
    """The plate sums of at most 5 weights, over all loose cuttings."""
    return tuple(
        sum(prod(weights[len(plate) - 3] for plate in plates(loose)) for loose in LOOSE[sides])
        for sides in range(3, len(weights) + 3)
    )


class Counts(TestCase):
    def test_count_loose(self):
        for sides, some in LOOSE.items():
            for many in range(sides + 2):
                self.assertEqual(count_loose(sides, many), len([loose for loose in some if len(loose[1]) == many]))
        for sides in (3, 4, 40, 41, 199, 200):
            self.assertEqual(count_loose(sides, 0), 1)
            self.assertEqual(count_loose(sides, sides - 3), count_cuttings(sides))
            if sides > 3:
                self.assertEqual(count_loose(sides, 1), sides * (sides - 3) // 2)
            for many in (sides - 2, sides, 1000, helpers.GREAT_INT):
                self.assertEqual(count_loose(sides, many), 0)
        for sides in (8, 40):
            self.assertEqual(face_counts((sides, ())), tuple(count_loose(sides, many) for many in range(sides - 2)))

    def test_turned_counts(self):
        for sides in list(range(3, 30)) + [40, 41, 120, 199, 200]:
            told = turned_counts(sides)
            self.assertIsInstance(told, tuple)
            self.assertEqual(len(told), sides - 2)
            for many in range(sides - 2):
                wanted = sum(number * comb(sides - 3 - at, many - at) for at, number in enumerate(told) if at <= many)
                self.assertEqual(count_loose(sides, many), wanted)
            self.assertEqual(told, told[::-1])
            self.assertGreaterEqual(min(told), 1)
            self.assertEqual(sum(told), count_cuttings(sides))

    def test_count_with_plates(self):
        for sides, some in LOOSE.items():
            known = [plate_counts(loose) for loose in some]
            for counts in product(range(4), repeat=min(sides - 1, 5)):
                wanted = known.count(without_noughts(counts))
                self.assertEqual(count_with_plates(sides, counts), wanted)
                self.assertEqual(count_with_plates(sides, counts + (0, 0)), wanted)
            self.assertEqual(count_with_plates(sides, ()), 0)
            self.assertEqual(count_with_plates(sides, (sides - 2,)), count_cuttings(sides))
            self.assertEqual(count_with_plates(sides, (0,) * (sides - 3) + (1,)), 1)
        self.assertEqual(count_with_plates(200, (198,)), count_cuttings(200))
        self.assertEqual(count_with_plates(200, (0,) * 38), 0)
        self.assertEqual(count_with_plates(40, (0,) * 37 + (1,)), 1)
        self.assertEqual(count_with_plates(41, (1,) + (0,) * 36 + (1,)), 41)
        self.assertEqual(count_with_plates(200, (200,) * 38), 0)
        for many in range(6):
            some = [counts for counts in product(range(7), repeat=6) if sum(counts) == many + 1]
            self.assertEqual(sum(count_with_plates(8, counts) for counts in some), count_loose(8, many))

    def test_loose_cuttings(self):
        for sides, some in LOOSE.items():
            for many in range(sides + 1):
                told = loose_cuttings(sides, many)
                self.assertIsInstance(told, list)
                self.assertEqual(told, [loose for loose in some if len(loose[1]) == many])
            self.assertEqual(loose_cuttings(sides, helpers.GREAT_INT), [])
        for many in range(7):
            told = loose_cuttings(8, many)
            self.assertEqual(len(told), count_loose(8, many))
            self.assertEqual(told, sorted(set(told)))
            self.assertTrue(all(is_loose(loose) and len(loose[1]) == many for loose in told))

    def test_in_how_many_cuttings_they_lie(self):
        for sides in range(3, 9):
            for many in range(sides - 2):
                total = sum(count_full(loose) for loose in loose_cuttings(sides, many))
                self.assertEqual(total, count_cuttings(sides) * comb(sides - 3, many))


class Sums(TestCase):
    def test_small_ones(self):
        for many in range(1, 5):
            for weights in product((-2, 0, 1, 3), repeat=many):
                self.assertEqual(plate_sums(weights), slow_plate_sums(weights))
        for weights in ((7, -11, 13, 2, -5), (10 ** 6, -10 ** 6, 999999, 1, 0), (0, 0, 0, 0, 1)):
            self.assertEqual(plate_sums(weights), slow_plate_sums(weights))

    def test_ones_and_noughts(self):
        ones = plate_sums((1,) * 38)
        self.assertEqual(ones, tuple(sum(face_counts((sides, ()))) for sides in range(3, 41)))
        self.assertEqual(plate_sums((1,) + (0,) * 37), tuple(count_cuttings(sides) for sides in range(3, 41)))
        self.assertEqual(plate_sums((0,) * 38), (0,) * 38)

    def test_below_nought_twice(self):
        some = [weights for many in range(1, 5) for weights in product((-3, -1, 0, 2), repeat=many)]
        some += [(1, -2, 3, -4, 5, -6), (0, 0, 7, 0, 0, 0, 0), (1,) * 9, (-1,) * 38, (0,) * 37 + (5,), (0, 1) + (0,) * 6]
        for weights in some:
            sums = tuple(-number for number in plate_sums(weights))
            if all(abs(number) <= 10 ** 6 for number in sums):
                self.assertEqual(tuple(-number for number in plate_sums(sums)), weights)

    def test_great_ones(self):
        told = plate_sums((10 ** 6,) * 38)
        # Each plate has the same weight; so each loose cutting counts by its plates.
        for sides in (3, 9, 40):
            faces = face_counts((sides, ()))
            self.assertEqual(told[sides - 3], sum(many * 10 ** (6 * at) for at, many in enumerate(faces, start=1)))


class WrongCounts(TestCase):
    def test_errors(self):
        for wrong in helpers.wrong_ints(3, 200):
            for call in (
                lambda sides: count_loose(sides, None), turned_counts, lambda sides: count_with_plates(sides, None),
                lambda sides: loose_cuttings(sides, -1),
            ):
                with self.assertRaises(InvalidSides):
                    call(wrong)
        for wrong in (-1, -helpers.GREAT_INT, True, None, "1", (1,)):
            for call in (count_loose, loose_cuttings):
                for sides in (5, 200):
                    with self.assertRaises(InvalidNumber):
                        call(sides, wrong)
        for sides in (9, 40, 41, 200):
            for many in (0, 1000):
                with self.assertRaises(TooMany) as caught:
                    loose_cuttings(sides, many)
                self.assertEqual(caught.exception.limit, 8)
        for wrong in ((0,) * 39, (201,), (-1,), (0, True), [0, 2], None):
            with self.assertRaises(InvalidCounts):
                count_with_plates(6, wrong)
        for wrong in ((), (1,) * 39, (10 ** 6 + 1,), (-10 ** 6 - 1,), (True,), [1], None):
            with self.assertRaises(InvalidWorths):
                plate_sums(wrong)
