"""Points 76 and 77: overs, and partings of cuttings."""

from unittest import TestCase

from eightworlds.errors import InvalidCut, InvalidNumber
from eightworlds.overs import (
    by_least, mirrored_points, moved_point, over, parting_cutting, parting_of, turned_points, under,
)
from tests import helpers
from tests.helpers import GREAT, SMALL, TRIANGLE
from tests.slow_partings import PARTINGS, SOME_PARTINGS, slow_over
from tests.test_partings import GREAT_PARTINGS, SINGLE, WHOLE


def renumbered(parting, number):
    """A parting in which each point has got another number."""
    return tuple(sorted(tuple(sorted(map(number, block))) for block in parting))


def slow_parting(cutting, place):
    """The points whose pieces have the same corner at a place, by the words of the document."""
    blocks = {}
    for piece in helpers.slow_pieces(cutting):
        blocks.setdefault(piece[place], []).append(piece[1] - 1)
    return tuple(sorted(tuple(sorted(block)) for block in blocks.values()))


class Overs(TestCase):
    def test_overs(self):
        for parting in SOME_PARTINGS + GREAT_PARTINGS:
            many = sum(map(len, parting))
            told = over(parting)
            self.assertEqual(told, slow_over(parting))
            self.assertEqual(under(told), parting)
            self.assertEqual(over(under(parting)), parting)
            self.assertEqual(len(parting) + len(told), many + 1)
            self.assertEqual(over(told), turned_points(parting, 1))
        self.assertEqual((over(SINGLE), over(WHOLE)), (WHOLE, SINGLE))

    def test_turned_and_mirrored(self):
        for parting in SOME_PARTINGS[::3] + GREAT_PARTINGS:
            many = sum(map(len, parting))
            for steps in (0, 1, -1, 2, 5, 999, -1000, 1000):
                self.assertEqual(turned_points(parting, steps), renumbered(parting, lambda point: (point + steps) % many))
            self.assertEqual(mirrored_points(parting), renumbered(parting, lambda point: many - 1 - point))
        for value in helpers.wrong_ints(-1000, 1000):
            with self.assertRaises(InvalidNumber):
                turned_points(((0,),), value)


class OfCuttings(TestCase):
    def test_there_and_back(self):
        for cutting in SMALL + GREAT:
            told = parting_of(cutting)
            self.assertEqual(told, slow_parting(cutting, 2))
            self.assertEqual(parting_cutting(told), cutting)
            self.assertEqual(by_least(cutting), slow_parting(cutting, 0))
            self.assertEqual(by_least(cutting), over(told))
        for parting in SOME_PARTINGS + GREAT_PARTINGS:
            self.assertEqual(parting_of(parting_cutting(parting)), parting)
        for points, wanted in PARTINGS.items():
            if points < 6:
                self.assertEqual(sorted(parting_of(cutting) for cutting in helpers.every_cutting(points + 2)), wanted)
        self.assertEqual((parting_of(TRIANGLE), by_least(TRIANGLE)), (((0,),), ((0,),)))

    def test_moved_points(self):
        for cutting in SMALL + GREAT:
            for cut in cutting[1][::max(1, cutting[0] // 8)]:
                new, other = helpers.slow_exchange(cutting, cut)
                point, least = moved_point(cutting, cut)
                w, x, y, z = sorted(cut + new)
                self.assertEqual(point, x - 1)
                ahead, behind = slow_parting(cutting, 2), slow_parting(other, 2)
                rest = [
                    sorted(tuple(one for one in block if one != point) for block in some if block != (point,))
                    for some in (ahead, behind)
                ]
                self.assertEqual(rest[0], rest[1])
                home = next(block for block in behind if point in block)
                self.assertEqual(least, home[0])
                self.assertNotIn(home, ahead)
                # By (w, y) for (x, z) it comes into the block of the corner y, and by the other exchange goes from it.
                self.assertEqual(y - 1 in home, cut == (w, y))
        for cut in ((1, 3), (2, 0), None):
            with self.assertRaises(InvalidCut):
                moved_point(helpers.Q, cut)
