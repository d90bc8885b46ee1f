"""Point 83: shared cuts and fields."""

from itertools import combinations
from unittest import TestCase

from eightworlds.errors import InvalidCutting, InvalidField, Unlike
from eightworlds.polygons import is_cutting, pieces
from eightworlds.shared import shared_cuts, shared_fields, within_field
from tests import helpers
from tests.helpers import GREAT, H, LITTLE, P, Q, SMALL, TRIANGLE, fan, halved, zigzag
from tests.slow_ways import PAIRS, slow_fields


class Shared(TestCase):
    def test_pairs(self):
        for one, other in PAIRS:
            cuts = shared_cuts(one, other)
            self.assertIsInstance(cuts, list)
            self.assertEqual(cuts, sorted(set(one[1]) & set(other[1])))
            fields = shared_fields(one, other)
            self.assertIsInstance(fields, list)
            self.assertEqual(fields, slow_fields(one[0], cuts))
            self.assertEqual(len(fields), len(cuts) + 1)

    def test_a_cutting_and_itself(self):
        for cutting in SMALL + GREAT:
            self.assertEqual(shared_cuts(cutting, cutting), list(cutting[1]))
            self.assertEqual(shared_fields(cutting, cutting), pieces(cutting))
        self.assertEqual((shared_cuts(TRIANGLE, TRIANGLE), shared_fields(TRIANGLE, TRIANGLE)), ([], [(0, 1, 2)]))

    def test_great_ones(self):
        self.assertEqual(shared_fields(fan(40), fan(40, 1)), [tuple(range(40))])
        one, other = fan(40), halved(40)
        both = [cut for cut in one[1] if cut in other[1]]
        self.assertEqual(shared_cuts(one, other), both)
        fields = shared_fields(one, other)
        self.assertEqual(len(fields), len(both) + 1)
        self.assertEqual(sum(len(field) - 2 for field in fields), 38)

    def test_errors(self):
        for call in (shared_cuts, shared_fields):
            with self.assertRaises(Unlike):
                call(P, Q)
            for wrong in (None, (5, ()), (6, ((0, 3),))):
                for one, other in ((wrong, H), (H, wrong)):
                    with self.assertRaises(InvalidCutting):
                        call(one, other)


class Within(TestCase):
    def test_all_sets_of_corners(self):
        for cutting in LITTLE:
            known = set(helpers.slow_ties(cutting))
            for many in range(cutting[0] + 1):
                for some in combinations(range(cutting[0]), many):
                    around = list(zip(some, some[1:])) + [(some[0], some[-1])] if some else []
                    if many > 2 and set(around) <= known:
                        told = within_field(cutting, some)
                        self.assertTrue(is_cutting(told))
                        inner = {(some[low], some[high]) for low, high in told[1]}
                        self.assertEqual(told[0], many)
                        self.assertEqual(inner, {cut for cut in cutting[1] if set(cut) <= set(some)} - set(around))
                    else:
                        with self.assertRaises(InvalidField):
                            within_field(cutting, some)

    def test_shared_fields_are_fields(self):
        for one, other in PAIRS[::7] + [(fan(40), zigzag(40)), (zigzag(40), halved(40))]:
            for corners in shared_fields(one, other):
                mine, yours = within_field(one, corners), within_field(other, corners)
                self.assertEqual(shared_cuts(mine, yours), [])

    def test_the_whole_and_pieces(self):
        for cutting in SMALL + GREAT:
            self.assertEqual(within_field(cutting, tuple(range(cutting[0]))), cutting)
            for piece in pieces(cutting)[::5]:
                self.assertEqual(within_field(cutting, piece), TRIANGLE)

    def test_errors(self):
        for wrong in (
            (0, 2), (0,), (), (0, 1, 3), (0, 2, 1), (2, 3, 0), (0, 2, 2, 3), (0, 2, 5), (-1, 2, 3), [0, 2, 3], (0, 2, True),
            (0, 0, 2), (0, 2, 3, 4, 0),
        ):
            with self.assertRaises(InvalidField):
                within_field(P, wrong)
        with self.assertRaises(InvalidCutting):
            within_field((5, ()), (0, 1))
