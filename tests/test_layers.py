"""Point 85: layers."""

from unittest import TestCase

from eightworlds.errors import InvalidCutting, InvalidSides, TooMany
from eightworlds.fewest import fewest_exchanges
from eightworlds.layers import farthest, layers, widest
from eightworlds.listing import cuttings
from eightworlds.turning import mirrored, turned
from tests import helpers
from tests.helpers import TRIANGLE, fan, halved, zigzag
from tests.slow_ways import CUTTINGS, FAR, far_between


class Layers(TestCase):
    def test_all_of_up_to_seven_sides(self):
        for sides, some in CUTTINGS.items():
            for cutting in some:
                far = [far_between(cutting, other) for other in some]
                told = layers(cutting)
                self.assertIsInstance(told, tuple)
                self.assertEqual(told, tuple(far.count(many) for many in range(max(far) + 1)))
                last = farthest(cutting)
                self.assertIsInstance(last, list)
                self.assertEqual(last, [other for other in some if far_between(cutting, other) == max(far)])

    def test_the_triangle(self):
        self.assertEqual((layers(TRIANGLE), farthest(TRIANGLE)), ((1,), [TRIANGLE]))

    def test_eight_sides(self):
        for cutting in (fan(8), zigzag(8), halved(8), fan(8, 5)):
            told = layers(cutting)
            self.assertEqual((told[0], told[1], sum(told)), (1, 5, 132))
            self.assertTrue(all(told))
            last = farthest(cutting)
            self.assertEqual(len(last), told[-1])
            self.assertEqual(last, sorted(last))
            self.assertEqual({fewest_exchanges(cutting, other) for other in last}, {len(told) - 1})
            self.assertEqual(layers(turned(cutting, 3)), told)
            self.assertEqual(layers(mirrored(cutting)), told)
        self.assertEqual(layers(fan(8))[-1], len([cutting for cutting in cuttings(8) if not any(0 in cut for cut in cutting[1])]))

    def test_widest(self):
        self.assertEqual([widest(sides) for sides in range(3, 8)], [max(FAR[sides].values()) for sides in range(3, 8)])

    def test_errors(self):
        for call in (layers, farthest):
            for cutting in (fan(9), zigzag(40)):
                with self.assertRaises(TooMany) as caught:
                    call(cutting)
                self.assertEqual(caught.exception.limit, 8)
            with self.assertRaises(InvalidCutting):
                call((9, ()))
        for wrong in helpers.wrong_ints(3, 7, 8, 9, 40):
            with self.assertRaises(InvalidSides):
                widest(wrong)
