"""Point 62: shapes."""

from itertools import product
from math import gcd
from unittest import TestCase

from eightworlds.errors import InvalidNumber, InvalidShape, TooMany
from eightworlds.polygons import is_cutting
from eightworlds.shapes import cutting_by, is_shape, levels_by, shape_by, tally
from eightworlds.snakes import is_line, shape_of
from tests import helpers
from tests.slow_pairings import levels_of, tile_rails

SHAPES = [shape for many in range(8) for shape in product(("right", "up"), repeat=many)]
LONG = [("right",) * 60, ("up",) * 60, ("right", "up") * 30, ("up", "up", "right") * 20, ("up", "right", "right", "up") * 9]
WRONG_SHAPES = helpers.OTHERS + helpers.INTS + list(helpers.spoiled(("right", "up"), lengths=False)) + [
    ("right",) * 61, ("left",), ("right", "Up"), ("right ",), ("", "up"), ["up"], ("up", None), "up", ("up", ["up"]), ("u", "p"),
    ("up",) * 400,
]


class Shapes(TestCase):
    def test_is_shape(self):
        for shape in SHAPES + LONG + [()]:
            self.assertIs(is_shape(shape), True)
        for value in WRONG_SHAPES:
            self.assertIs(is_shape(value), False, value)
            for call in (tally, levels_by, cutting_by):
                with self.assertRaises(InvalidShape):
                    call(value)

    def test_tallies_and_levels(self):
        left = tile_rails((0, 0))[0]
        for shape in SHAPES:
            levels = levels_of(shape)
            self.assertEqual(tally(shape), (len(levels), len([pairing for pairing in levels if left in pairing])))
            many = [list(levels.values()).count(level) for level in range(len(shape) + 2)]
            self.assertEqual(levels_by(shape), tuple(many))

    def test_long_ones(self):
        for shape in LONG:
            top, below = tally(shape)
            self.assertEqual(gcd(top, below), 1)
            self.assertEqual(shape_by(top, below), shape)
            levels = levels_by(shape)
            self.assertEqual(sum(levels), top)
            self.assertEqual(len(levels), len(shape) + 2)
            self.assertEqual((levels[0], levels[-1]), (1, 1))


class ByTally(TestCase):
    def test_each_fraction_is_the_tally_of_just_one(self):
        seen = {}
        for shape in SHAPES:
            self.assertEqual(shape_by(*tally(shape)), shape)
            self.assertNotIn(tally(shape), seen)
            seen[tally(shape)] = shape
        for top in range(2, 50):
            for below in range(1, top):
                if gcd(top, below) == 1:
                    self.assertEqual(tally(shape_by(top, below)), (top, below))

    def test_the_limit(self):
        self.assertEqual(len(shape_by(62, 1)), 60)
        self.assertEqual(len(shape_by(62, 61)), 60)
        great = 10 ** 30
        for top, below in ((63, 1), (63, 62), (great, 1), (great, great - 1), (great, great // 2 - 1), (great - 1, great - 2)):
            if gcd(top, below) == 1:
                with self.assertRaises(TooMany) as caught:
                    shape_by(top, below)
                self.assertEqual(caught.exception.limit, 60)

    def test_wrong_numbers(self):
        for wrong in helpers.wrong_ints(1, 10 ** 30):
            with self.assertRaises(InvalidNumber):
                shape_by(wrong, 1)
            with self.assertRaises(InvalidNumber):
                shape_by(5, wrong)
        for top, below in ((1, 1), (2, 2), (4, 2), (2, 5), (1, 2), (9, 6), (10 ** 30, 10), (0, 0), (5, True), (5, 0), (1, 0)):
            with self.assertRaises(InvalidNumber):
                shape_by(top, below)


class ByShape(TestCase):
    def test_the_cutting_and_the_line(self):
        for shape in SHAPES + [shape[:36] for shape in LONG]:
            told = cutting_by(shape)
            self.assertIsInstance(told, tuple)
            cutting, line = told
            self.assertIs(is_cutting(cutting), True)
            self.assertEqual(cutting[0], len(shape) + 4)
            self.assertIs(is_line(cutting, line), True)
            self.assertEqual(shape_of(cutting, line), shape)

    def test_too_many(self):
        for many in (37, 38, 60):
            with self.assertRaises(TooMany) as caught:
                cutting_by(("up",) * many)
            self.assertEqual(caught.exception.limit, 36)
        self.assertEqual(cutting_by(("up",) * 36)[0][0], 40)
