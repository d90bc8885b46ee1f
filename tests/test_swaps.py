"""Point 80: great swaps, stairs and parkings."""

from itertools import combinations, product
from unittest import TestCase

from eightworlds.errors import InvalidParking, InvalidPoints, InvalidStair, InvalidSwaps, TooMany
from eightworlds.partings import is_parting
from eightworlds.swaps import are_great, great_swaps, parking_of, stair_of, swaps_for, swaps_of
from tests import helpers
from tests.calls_trees import PARKING, STAIR, SWAPS
from tests.slow_partings import ALL_SWAPS, PARTINGS, do_swaps, is_within


def slow_stair(points, swaps):
    """The stair of great swaps, by the words of the document."""
    found = []
    for many in range(points):
        places = do_swaps(points, swaps[:many])
        blocks = set()
        for point in range(points):
            block, here = {point}, places[point]
            while here not in block:
                block.add(here)
                here = places[here]
            blocks.add(tuple(sorted(block)))
        found.append(tuple(sorted(blocks)))
    return tuple(found)


def all_stairs(points):
    """All stairs of so many points."""
    found = [(tuple((point,) for point in range(points)),)]
    for many in range(points - 1, 0, -1):
        found = [
            stair + (parting,) for stair in found for parting in PARTINGS[points]
            if len(parting) == many and is_within(stair[-1], parting)
        ]
    return found


def is_slow_parking(points, value):
    return all(len([number for number in value if number < k]) >= k for k in range(1, points))


def great_parkings():
    """Some parkings of 38 points."""
    yield (0,) * 37
    yield tuple(range(37))
    yield tuple(range(36, -1, -1))
    yield tuple(at // 2 for at in range(37))
    yield tuple((at * 16) % 37 for at in range(37))
    yield tuple((at * 16) % 37 // 3 for at in range(37))
    yield tuple((at * 5) % 37 // 2 * 2 for at in range(37))


class Great(TestCase):
    def test_great_swaps(self):
        for points, wanted in ALL_SWAPS.items():
            told = great_swaps(points)
            self.assertIsInstance(told, list)
            self.assertEqual(told, wanted)
            self.assertEqual(len(told), points ** max(points - 2, 0))

    def test_are_great(self):
        for points, wanted in ALL_SWAPS.items():
            if points < 5:
                for value in product(list(combinations(range(points), 2)), repeat=points - 1):
                    self.assertIs(are_great(points, value), value in wanted)
            self.assertIs(are_great(points, wanted[0] + ((0, 1),)), False)
            self.assertIs(are_great(points + 1, wanted[0]), False)
            self.assertIs(are_great(points, list(wanted[0])), False)
        for value in SWAPS[1]:
            self.assertIs(are_great(3, value), False)
        self.assertIs(are_great(1, ()), True)
        self.assertIs(are_great(2, ()), False)
        self.assertIs(are_great(38, tuple((point, point + 1) for point in range(37))), True)
        self.assertIs(are_great(38, tuple((point, 37) for point in range(37))), False)
        self.assertIs(are_great(38, tuple((0, point) for point in range(37, 0, -1))), True)


class Stairs(TestCase):
    def test_there_and_back(self):
        for points, wanted in ALL_SWAPS.items():
            stairs = [stair_of(points, swaps) for swaps in wanted]
            self.assertEqual(stairs, [slow_stair(points, swaps) for swaps in wanted])
            self.assertEqual([swaps_of(stair) for stair in stairs], wanted)
            self.assertEqual(sorted(stairs), sorted(all_stairs(points)))

    def test_parkings(self):
        for points, wanted in ALL_SWAPS.items():
            parkings = [parking_of(points, swaps) for swaps in wanted]
            self.assertEqual(parkings, [tuple(low for low, _ in swaps) for swaps in wanted])
            self.assertEqual([swaps_for(points, parking) for parking in parkings], wanted)
            for value in product(range(-1, points + 1), repeat=points - 1):
                fit = min(value, default=0) >= 0 and is_slow_parking(points, value)
                self.assertEqual(fit, value in parkings)
                if not fit:
                    with self.assertRaises(InvalidParking):
                        swaps_for(points, value)

    def test_great_ones(self):
        for parking in great_parkings():
            self.assertTrue(is_slow_parking(38, parking))
            swaps = swaps_for(38, parking)
            self.assertEqual(do_swaps(38, swaps), list(range(1, 38)) + [0])
            self.assertIs(are_great(38, swaps), True)
            self.assertEqual(parking_of(38, swaps), parking)
            stair = stair_of(38, swaps)
            self.assertTrue(all(is_parting(parting) for parting in stair))
            self.assertEqual(stair[-1], (tuple(range(38)),))
            self.assertEqual(swaps_of(stair), swaps)

    def test_wrong_ones(self):
        for value in SWAPS[1]:
            for call in (stair_of, parking_of):
                with self.assertRaises(InvalidSwaps):
                    call(3, value)
        for value in STAIR[1]:
            with self.assertRaises(InvalidStair):
                swaps_of(value)
        for value in PARKING[1]:
            with self.assertRaises(InvalidParking):
                swaps_for(3, value)
        with self.assertRaises(InvalidSwaps):
            stair_of(4, ((0, 1), (1, 2)))
        self.assertEqual((stair_of(1, ()), parking_of(1, ()), swaps_for(1, ()), swaps_of((((0,),),))), ((((0,),),), (), (), ()))

    def test_wrong_points(self):
        for points in helpers.wrong_ints(1, 38):
            for call in (stair_of, parking_of, swaps_for, are_great, lambda points, _: great_swaps(points)):
                with self.assertRaises(InvalidPoints):
                    call(points, ())
        for points in (6, 38):
            with self.assertRaises(TooMany) as caught:
                great_swaps(points)
            self.assertEqual(caught.exception.limit, 5)
