"""Point 47: polygons."""

from itertools import combinations
from unittest import TestCase

from eightworlds.errors import InvalidCut, InvalidSides
from eightworlds.polygons import counts_at, do_cross, ears, is_cutting, pieces, ties
from tests import helpers
from tests.helpers import GREAT, H, P, Q, SMALL, TRIANGLE, WRONG_CUTTINGS, Z


class Cuttings(TestCase):
    def test_all_cuttings_are_cuttings(self):
        for cutting in SMALL + GREAT:
            self.assertIs(is_cutting(cutting), True)

    def test_just_these_are_cuttings(self):
        for sides in (3, 4, 5, 6):
            known = helpers.every_cutting(sides)
            for many in range(sides):
                for cuts in combinations([(a, b) for a in range(-1, sides + 1) for b in range(-1, sides + 1)], many):
                    if many < 3 or all(0 <= a < b < sides for a, b in cuts):
                        self.assertEqual(is_cutting((sides, cuts)), (sides, cuts) in known, (sides, cuts))

    def test_wrong_values_are_none(self):
        for value in WRONG_CUTTINGS:
            self.assertIs(is_cutting(value), False, value)

    def test_unsorted_cuts_are_none(self):
        for cutting in SMALL:
            sides, cuts = cutting
            if sides > 4:
                self.assertFalse(is_cutting((sides, cuts[::-1])))
                self.assertFalse(is_cutting((sides, cuts[:1] + cuts[:-1])))
                self.assertFalse(is_cutting((sides, tuple((b, a) for a, b in cuts))))
            self.assertFalse(is_cutting((sides + 1, cuts)))
            self.assertFalse(is_cutting((sides - 1, cuts)))


class Parts(TestCase):
    def test_pieces_and_ties(self):
        for cutting in SMALL + GREAT:
            self.assertEqual(pieces(cutting), helpers.slow_pieces(cutting))
            self.assertEqual(ties(cutting), helpers.slow_ties(cutting))
            self.assertEqual(counts_at(cutting), helpers.slow_counts(cutting))
            self.assertEqual(ears(cutting), [at for at, many in enumerate(helpers.slow_counts(cutting)) if many == 1])

    def test_kinds_of_results(self):
        for cutting in (TRIANGLE, Q, P, H, Z):
            self.assertIsInstance(pieces(cutting), list)
            self.assertIsInstance(pieces(cutting)[0], tuple)
            self.assertIsInstance(ties(cutting), list)
            self.assertIsInstance(counts_at(cutting), tuple)
            self.assertIsInstance(ears(cutting), list)

    def test_a_triangle(self):
        self.assertEqual(pieces(TRIANGLE), [(0, 1, 2)])
        self.assertEqual(ties(TRIANGLE), [(0, 1), (0, 2), (1, 2)])
        self.assertEqual(counts_at(TRIANGLE), (1, 1, 1))
        self.assertEqual(ears(TRIANGLE), [0, 1, 2])


class Crossings(TestCase):
    def test_all_pairs(self):
        for sides in (4, 5, 6, 9, 40):
            some = helpers.all_cuts(sides)
            some = some if sides < 10 else some[::37]
            for one in some:
                for other in some:
                    self.assertIs(do_cross(sides, one, other), helpers.meet_inside(one, other))

    def test_what_is_no_cut_of_the_polygon(self):
        for wrong in ((0, 1), (0, 4), (3, 4), (0, 5), (-1, 2), (2, 0), (2, 2), (1, 1), (False, 2), [0, 2]):
            with self.assertRaises(InvalidCut):
                do_cross(5, wrong, (0, 2))
            with self.assertRaises(InvalidCut):
                do_cross(5, (0, 2), wrong)
            with self.assertRaises(InvalidSides):
                do_cross(2, wrong, wrong)

    def test_a_triangle_has_no_cuts(self):
        for one in combinations(range(3), 2):
            with self.assertRaises(InvalidCut):
                do_cross(3, one, one)
