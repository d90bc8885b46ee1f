"""Point 48: exchanges."""

from unittest import TestCase

from eightworlds.exchanges import comes_for, exchanged, exchanges, fan_way
from eightworlds.polygons import is_cutting
from tests import helpers
from tests.helpers import GREAT, P, Q, SMALL, TRIANGLE


class Exchanges(TestCase):
    def test_each_cut(self):
        for cutting in SMALL + GREAT:
            told = exchanges(cutting)
            self.assertIsInstance(told, list)
            self.assertEqual([cut for cut, _ in told], list(cutting[1]))
            for cut, new in told[:12]:
                slow_new, behind = helpers.slow_exchange(cutting, cut)
                self.assertEqual(new, slow_new)
                self.assertEqual(comes_for(cutting, cut), new)
                self.assertEqual(exchanged(cutting, cut), behind)

    def test_an_exchange_leads_to_a_cutting_and_back(self):
        for cutting in SMALL:
            for cut, new in exchanges(cutting):
                behind = exchanged(cutting, cut)
                self.assertTrue(is_cutting(behind))
                self.assertEqual(comes_for(behind, new), cut)
                self.assertEqual(exchanged(behind, new), cutting)

    def test_exchanges_lead_from_each_cutting_to_each_other_one(self):
        for sides in range(3, 8):
            found = {helpers.fan(sides)}
            ahead = list(found)
            while ahead:
                cutting = ahead.pop()
                behind = {exchanged(cutting, cut) for cut in cutting[1]} - found
                found |= behind
                ahead.extend(behind)
            self.assertEqual(sorted(found), helpers.every_cutting(sides))

    def test_a_triangle_has_none(self):
        self.assertEqual(exchanges(TRIANGLE), [])
        self.assertEqual(fan_way(TRIANGLE), ())


class FanWay(TestCase):
    def test_it_leads_to_the_fan(self):
        for cutting in SMALL + GREAT:
            way = fan_way(cutting)
            self.assertIsInstance(way, tuple)
            behind = cutting
            for cut in way:
                self.assertIn(cut, behind[1])
                behind = exchanged(behind, cut)
            self.assertEqual(behind, helpers.fan(cutting[0]))

    def test_it_is_as_short_as_can_be(self):
        for sides in range(3, 8):
            # How far each cutting is, found layer by layer from the fan.
            far = {helpers.fan(sides): 0}
            layer = list(far)
            while layer:
                found = []
                for cutting in layer:
                    for cut in cutting[1]:
                        behind = helpers.slow_exchange(cutting, cut)[1]
                        if behind not in far:
                            far[behind] = far[cutting] + 1
                            found.append(behind)
                layer = found
            for cutting, many in far.items():
                self.assertEqual(len(fan_way(cutting)), many)

    def test_great_ones(self):
        for cutting in GREAT:
            self.assertEqual(len(fan_way(cutting)), len([cut for cut in cutting[1] if 0 not in cut]))

    def test_fans_need_nothing(self):
        self.assertEqual(fan_way(P), ())
        self.assertEqual(fan_way(Q), ())
