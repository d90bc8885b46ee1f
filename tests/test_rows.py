"""Point 51: rows, striking and bars."""

from itertools import product
from unittest import TestCase

from eightworlds.errors import InvalidPlace, InvalidRow
from eightworlds.polygons import counts_at
from eightworlds.rows import are_counts, is_row_bar, row_bar, row_cutting, row_struck
from tests import helpers
from tests.helpers import GREAT, SMALL

WRONG_ROWS = helpers.OTHERS + helpers.INTS + list(helpers.spoiled((3, 1, 2, 2, 1), lengths=False)) + [
    (), (1,), (1, 1), (1,) * 41, (100, 1, 1), (1, -100, 1), (1, 1, True), (False, 1, 1), (1, 1, 1.0), [1, 1, 1],
]


def slow_struck(row, place):
    """A row with the 1 at a place struck, told around."""
    around = list(row[place + 1:] + row[:place])
    around[0] -= 1
    around[-1] -= 1
    turn = len(row) - 1 - place
    return tuple(around[turn:] + around[:turn])


def slow_is_bar(row, value):
    """Whether a tuple of integers is a bar, by the words of the document."""
    for place in value:
        if len(row) <= 3 or not 0 <= place < len(row) or row[place] != 1:
            return False
        row = slow_struck(row, place)
    return min(row) < 1 or 1 not in row or (len(row) == 3 and row != (1, 1, 1))


class Counts(TestCase):
    def test_cuttings_and_their_counts(self):
        for cutting in SMALL + GREAT:
            row = counts_at(cutting)
            self.assertIs(are_counts(row), True)
            self.assertEqual(row_cutting(row), cutting)
            self.assertIsNone(row_bar(row))

    def test_no_two_have_the_same(self):
        self.assertEqual(len({counts_at(cutting) for cutting in SMALL}), len(SMALL))

    def test_all_rows(self):
        for sides in (3, 4, 5, 6):
            known = {helpers.slow_counts(cutting) for cutting in helpers.every_cutting(sides)}
            for row in product(range(0, sides), repeat=sides):
                self.assertEqual(are_counts(row), row in known)
                self.assertEqual(row_cutting(row) is None, row not in known)
                bar = row_bar(row)
                self.assertEqual(bar is None, row in known)
                if bar is not None:
                    self.assertIsInstance(bar, tuple)
                    self.assertTrue(is_row_bar(row, bar))
                    self.assertTrue(slow_is_bar(row, bar))

    def test_what_is_no_row_is_no_counts(self):
        for value in WRONG_ROWS:
            self.assertIs(are_counts(value), False, value)
        self.assertFalse(are_counts((True, True, True)))

    def test_near_ones(self):
        for cutting in GREAT:
            row = counts_at(cutting)
            for at in range(0, len(row), 5):
                for less in (-1, 1, -99, 60):
                    other = row[:at] + (row[at] + less,) + row[at + 1:]
                    self.assertFalse(are_counts(other))
                    if max(other) < 100 > -min(other):
                        self.assertIsNone(row_cutting(other))
                        self.assertTrue(slow_is_bar(other, row_bar(other)))


class Striking(TestCase):
    def test_row_struck(self):
        for row in [counts_at(cutting) for cutting in SMALL + GREAT] + [(1, 1, 1, 1), (1, -99, 1, 99), (1, 0, 5, -3, 1)]:
            for place, item in enumerate(row):
                if len(row) > 3 and item == 1:
                    self.assertEqual(row_struck(row, place), slow_struck(row, place))
                else:
                    with self.assertRaises(InvalidPlace):
                        row_struck(row, place)

    def test_below_the_bounds_of_rows(self):
        self.assertEqual(row_struck((1, -99, 2, -99), 0), (-100, 2, -100))

    def test_wrong_places(self):
        for place in helpers.OTHERS + [-1, 5, 0, 2, 3, (1,), helpers.GREAT_INT, -helpers.GREAT_INT]:
            with self.assertRaises(InvalidPlace):
                row_struck((3, 1, 2, 2, 1), place)
        for place in helpers.OTHERS + helpers.INTS:
            with self.assertRaises(InvalidPlace):
                row_struck((1, 1, 1), place)

    def test_wrong_rows(self):
        for row in WRONG_ROWS:
            for call in (row_cutting, row_bar, lambda one: row_struck(one, 0), lambda one: is_row_bar(one, ())):
                with self.assertRaises(InvalidRow):
                    call(row)


class Bars(TestCase):
    def test_all_short_values(self):
        rows = [(1, 2, 1, 1, 3), (2, 2, 2, 2), (1, 1, 2, 3), (1, 1, 2), (1, 1, 1), (3, 1, 2, 2, 1), (0, 1, 5, 1, 1),
                (1, 3, 1, 3, 1, 3), (1, 1, 1, 1), (1, 2, 1, 2), (-99, 1, 99, 1), (1, 4, 1, 2, 3, 1, 2)]
        for row in rows:
            for many in range(5):
                for value in product(range(-1, 6), repeat=many):
                    self.assertEqual(is_row_bar(row, value), slow_is_bar(row, value), (row, value))

    def test_a_row_that_is_stuck_at_once(self):
        for row in ((2, 2, 2), (0, 1, 1, 5), (2,) * 40, (1, 1, 2), (-5, 1, 1, 1, 1), (99,) * 40, (-99,) * 40):
            self.assertTrue(is_row_bar(row, row_bar(row)))
            self.assertTrue(is_row_bar(row, ()))

    def test_striking_may_go_on_where_an_item_is_below_one(self):
        self.assertTrue(is_row_bar((0, 1, 5, 1, 1), (1,)))
        self.assertTrue(is_row_bar((0, 1, 5, 1, 1), (1, 2)))

    def test_wrong_values_are_none(self):
        for value in helpers.OTHERS + helpers.INTS + [(True,), (0, True), [0], [], (None,), ("0",), ((0,),), (0,) * 400]:
            self.assertIs(is_row_bar((1, 1, 2, 3), value), False, value)
        self.assertIs(is_row_bar((2, 1, 1, 3), (True,)), False)
        self.assertIs(is_row_bar((2, 1, 1, 3), (1,)), True)

    def test_rows_with_many_bars(self):
        for row in ((1,) * 40, (1, 2) * 20, (3, 1, 2, 2, 1) * 8, (1, 3) * 19 + (1, 1)):
            bar = row_bar(row)
            self.assertTrue(bar is not None and slow_is_bar(row, bar))
