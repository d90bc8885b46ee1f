"""Point 55: roads."""

from itertools import combinations
from math import gcd
from unittest import TestCase

from eightworlds.errors import InvalidFraction, InvalidMark, InvalidPlace, InvalidRoad, TooMany
from eightworlds.friezes import frieze
from eightworlds.polygons import counts_at
from eightworlds.roads import is_road, middle_of, road_cutting, road_of, road_to, road_with
from tests import helpers
from tests.helpers import GREAT, P, SMALL, TRIANGLE

W = ((0, 1), (1, 3), (1, 2), (1, 1), (1, 0))
WRONG_ROADS = helpers.OTHERS + helpers.INTS + list(helpers.spoiled(W)) + [
    W[::-1], W[:2] + W[3:], W[:3] + W[2:], ((0, 1), (1, 0)), ((0, 1), (2, 2), (1, 0)), ((0, 1), (0, 1), (1, 0)),
    ((0, 1), (1, 1), (1, 1), (1, 0)), ((0, 1), (-1, -1), (1, 0)), ((0, -1), (1, 1), (1, 0)), ((0, 2), (1, 1), (2, 0)),
    ((0, 1), (1, 1), (1, 0), (1, 0)), tuple((top, 1) for top in range(40)) + ((1, 0),), ((0, 0),) * 5, (),
    ((1, 1), (2, 1), (1, 0)), ((0, 1), (1, 2), (1, 1)), ((0, 1), (1, 10 ** 31), (1, 0)), ((0, 1), (True, 1), (1, 0)),
]


def counts_of_road(road):
    """The counts of a road, by the words of the document."""
    counts = [road[1][1]]
    for one, mark, other in zip(road, road[1:], road[2:]):
        sums = (one[0] + other[0], one[1] + other[1])
        number = sums[0] // mark[0]
        assert (number * mark[0], number * mark[1]) == sums
        counts.append(number)
    return tuple(counts + [road[-2][0]])


class Roads(TestCase):
    def test_one_to_one_by_the_counts(self):
        for cutting in SMALL + GREAT:
            road = road_of(cutting)
            self.assertIsInstance(road, tuple)
            self.assertIs(is_road(road), True)
            self.assertEqual(counts_of_road(road), counts_at(cutting))
            self.assertEqual(road_cutting(road), cutting)

    def test_numbers_of_the_frieze_across(self):
        for cutting in SMALL + GREAT:
            road, told = road_of(cutting), frieze(cutting)
            for i, j in combinations(range(cutting[0]), 2):
                self.assertEqual(told[i][j], road[j][0] * road[i][1] - road[i][0] * road[j][1])

    def test_all_roads_with_small_marks(self):
        marks = sorted(
            [(top, below) for top in range(4) for below in range(4) if gcd(top, below) == 1],
            key=lambda mark: mark[0] / mark[1] if mark[1] else 99,
        )
        inner = [mark for mark in marks if mark not in ((0, 1), (1, 0))]
        known = {road_of(cutting) for cutting in SMALL}
        for many in range(1, 6):
            for some in combinations(inner, many):
                road = ((0, 1),) + some + ((1, 0),)
                self.assertEqual(is_road(road), road in known)

    def test_wrong_values(self):
        for value in WRONG_ROADS:
            self.assertIs(is_road(value), False, value)
            with self.assertRaises(InvalidRoad):
                road_cutting(value)
            with self.assertRaises(InvalidRoad):
                road_with(value, None)


class Middles(TestCase):
    def test_middle_of(self):
        marks = [(top, below) for top in range(9) for below in range(9) if gcd(top, below) == 1]
        for one in marks:
            for other in marks:
                if abs(one[0] * other[1] - one[1] * other[0]) == 1:
                    self.assertEqual(middle_of(one, other), (one[0] + other[0], one[1] + other[1]))
                else:
                    with self.assertRaises(InvalidMark):
                        middle_of(one, other)

    def test_great_marks(self):
        great = 10 ** 30
        self.assertEqual(middle_of((great, 1), (great - 1, 1)), (2 * great - 1, 2))
        self.assertEqual(middle_of((1, 0), (great, 1)), (great + 1, 1))
        for one, other in (((great + 1, 1), (great, 1)), ((1, great), (1, great + 1)), ((1, 0), (great + 1, 1))):
            with self.assertRaises(InvalidMark):
                middle_of(one, other)

    def test_wrong_marks(self):
        wrong = helpers.OTHERS + helpers.INTS + list(helpers.spoiled((1, 1))) + [(0, 0), (2, 2), (-1, 0), (0, -1), (-1, -1)]
        for mark in wrong:
            for good in ((0, 1), (1, 0), (1, 1), (1, 2)):
                with self.assertRaises(InvalidMark):
                    middle_of(mark, good)
                with self.assertRaises(InvalidMark):
                    middle_of(good, mark)
            with self.assertRaises(InvalidMark):
                middle_of(mark, mark)


class Longer(TestCase):
    def test_road_with(self):
        for cutting in SMALL + [cutting for cutting in GREAT if cutting[0] < 40]:
            road = road_of(cutting)
            for place in range(len(road) - 1):
                longer = road_with(road, place)
                self.assertEqual(longer[:place + 1] + longer[place + 2:], road)
                self.assertEqual(longer[place + 1], middle_of(road[place], road[place + 1]))
                self.assertIs(is_road(longer), True)

    def test_wrong_places(self):
        for place in helpers.wrong_ints(0, 3, 4):
            with self.assertRaises(InvalidPlace):
                road_with(W, place)

    def test_too_many(self):
        road = road_of(helpers.zigzag(40))
        for place in (0, 17, 38):
            with self.assertRaises(TooMany) as caught:
                road_with(road, place)
            self.assertEqual(caught.exception.limit, 40)
        for place in (39, -1, 40, True, None):
            with self.assertRaises(InvalidPlace):
                road_with(road, place)
        self.assertEqual(len(road_with(road_of(helpers.fan(39)), 37)), 40)


class Shortest(TestCase):
    def test_shortest_of_all(self):
        shortest = {}
        for cutting in SMALL + helpers.every_cutting(8):
            road = road_of(cutting)
            for mark in road[1:-1]:
                shortest.setdefault(mark, []).append(road)
        for mark, known in shortest.items():
            least = min(map(len, known))
            told = road_to(mark)
            self.assertEqual([road for road in known if len(road) == least], [told])

    def test_all_small_fractions(self):
        for top in range(1, 60):
            for below in range(1, 60):
                if gcd(top, below) == 1 and top + below < 70:
                    try:
                        road = road_to((top, below))
                    except TooMany:
                        self.assertTrue(max(top, below) > 30)
                        continue
                    self.assertIs(is_road(road), True)
                    self.assertIn((top, below), road)
                    # No shorter one has it: without any other mark the neighbours are not near.
                    for at in range(1, len(road) - 1):
                        if road[at] != (top, below):
                            self.assertFalse(is_road(road[:at] + road[at + 1:]))

    def test_as_long_as_can_be(self):
        for road, mark in (((38, 1), (38, 1)), ((1, 38), (1, 38))):
            self.assertEqual(len(road_to(road)), 40)
            self.assertIn(mark, road_to(road))
        self.assertEqual(road_to((1, 1)), ((0, 1), (1, 1), (1, 0)))
        self.assertTrue(is_road(road_to((832040, 514229))))
        for fraction in ((39, 1), (1, 39), (10 ** 6, 1), (1, 10 ** 6), (10 ** 6, 999999), (999999, 10 ** 6), (39 * 40 + 1, 40)):
            with self.assertRaises(TooMany) as caught:
                road_to(fraction)
            self.assertEqual(caught.exception.limit, 40)

    def test_wrong_fractions(self):
        wrong = helpers.OTHERS + helpers.INTS + list(helpers.spoiled((2, 3))) + [
            (0, 1), (1, 0), (-1, 2), (2, -3), (-2, -3), (2, 4), (10 ** 6 + 1, 1), (1, 10 ** 6 + 1), (10 ** 6, 10), (0, 0),
        ]
        for fraction in wrong:
            with self.assertRaises(InvalidFraction):
                road_to(fraction)

    def test_a_triangle(self):
        self.assertEqual(road_cutting(((0, 1), (1, 1), (1, 0))), TRIANGLE)
        self.assertEqual(road_cutting(W), P)
