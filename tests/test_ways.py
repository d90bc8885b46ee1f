"""Point 82: ways, and ways by fans."""

from itertools import product
from unittest import TestCase

from eightworlds.errors import InvalidCorner, InvalidCutting, InvalidWay, Unlike
from eightworlds.ways import behind_way, far_from_fan, is_way_to, way_back, way_by_fan
from tests import helpers
from tests.helpers import FAN, GREAT, H, LITTLE, P, Q, TRIANGLE, Z, fan, zigzag
from tests.slow_ways import CUTTINGS, PAIRS, far_between, walk
from tests.test_tables import walks


class Ways(TestCase):
    def test_behind_and_back(self):
        for cutting in LITTLE + [zigzag(9), fan(13), zigzag(40)]:
            if cutting == TRIANGLE:
                continue
            for way, behind, _, _ in walks(cutting, 12):
                self.assertEqual(behind_way(cutting, way), behind)
                back = way_back(cutting, way)
                self.assertEqual(len(back), len(way))
                self.assertEqual(walk(behind, back), walk(cutting, way)[::-1])
                self.assertEqual(way_back(behind, back), way)
                self.assertIs(is_way_to(cutting, behind, way), True)
                self.assertIs(is_way_to(behind, cutting, back), True)

    def test_the_empty_way(self):
        for cutting in LITTLE + GREAT:
            self.assertEqual((behind_way(cutting, ()), way_back(cutting, ())), (cutting, ()))
            self.assertIs(is_way_to(cutting, cutting, ()), True)
        self.assertIs(is_way_to(P, helpers.fan(5, 1), ()), False)

    def test_all_short_ways(self):
        for sides in (4, 5):
            known = helpers.all_cuts(sides)
            for one in CUTTINGS[sides]:
                for many in range(4):
                    for way in product(known, repeat=many):
                        along = walk(one, way)
                        for other in CUTTINGS[sides]:
                            self.assertIs(is_way_to(one, other, way), along is not None and along[-1] == other)
                        if along is None:
                            with self.assertRaises(InvalidWay):
                                behind_way(one, way)
                            with self.assertRaises(InvalidWay):
                                way_back(one, way)

    def test_eighty_cuts(self):
        to_and_fro = ((0, 2), (1, 3)) * 40
        self.assertEqual(behind_way(Q, to_and_fro), Q)
        self.assertEqual(way_back(Q, to_and_fro), to_and_fro)
        self.assertIs(is_way_to(Q, Q, to_and_fro), True)
        for way in (to_and_fro + ((0, 2),), ((0, 2), (1, 3)) * 200):
            self.assertIs(is_way_to(Q, behind_way(Q, way[:1]), way), False)
            self.assertIs(is_way_to(Q, Q, way), False)
            for call in (behind_way, way_back):
                with self.assertRaises(InvalidWay):
                    call(Q, way)

    def test_what_is_no_way(self):
        for value in helpers.OTHERS + helpers.INTS + [[(0, 4)], ([0, 4],), ((4, 0),), ((False, 4),), ((0, 4), None), (0, 4)]:
            self.assertIs(is_way_to(H, helpers.slow_exchange(H, (0, 4))[1], value), False)
        self.assertIs(is_way_to(H, H, None), False)


class Fans(TestCase):
    def test_far_from_fan(self):
        for sides, some in CUTTINGS.items():
            for corner in range(sides):
                for cutting in some:
                    told = far_from_fan(cutting, corner)
                    self.assertEqual(told, far_between(cutting, fan(sides, corner)))
                    self.assertEqual(told, sum(corner not in cut for cut in cutting[1]))
        self.assertEqual([far_from_fan(zigzag(40), corner) for corner in (0, 1, 20)], [37, 36, 37])

    def test_way_by_fan(self):
        for one, other in PAIRS + [(zigzag(40), fan(40, 8)), (helpers.halved(40), zigzag(40)), (fan(40), fan(40))]:
            sides = one[0]
            for corner in range(sides) if sides < 9 else (0, 7, 39):
                told = way_by_fan(one, other, corner)
                self.assertIsInstance(told, tuple)
                along = walk(one, told)
                self.assertEqual(along[-1], other)
                self.assertIn(fan(sides, corner), along)
                self.assertEqual(len(told), far_from_fan(one, corner) + far_from_fan(other, corner))
                if sides < 7:
                    middle = fan(sides, corner)
                    self.assertEqual(len(told), far_between(one, middle) + far_between(middle, other))
        self.assertEqual(way_by_fan(TRIANGLE, TRIANGLE, 2), ())
        self.assertEqual(way_by_fan(FAN, FAN, 0), ())


class WrongWays(TestCase):
    def test_order_of_errors(self):
        for call in (lambda one, other: is_way_to(one, other, ()), lambda one, other: way_by_fan(one, other, 99)):
            with self.assertRaises(InvalidCutting):
                call(P, (5, ()))
            with self.assertRaises(InvalidCutting):
                call(None, P)
            with self.assertRaises(Unlike):
                call(P, H)
        for corner in helpers.wrong_ints(0, 5):
            with self.assertRaises(InvalidCorner):
                far_from_fan(Z, corner)
            with self.assertRaises(InvalidCorner):
                way_by_fan(Z, H, corner)
            with self.assertRaises(Unlike):
                way_by_fan(Z, P, corner)
