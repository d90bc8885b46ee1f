"""Point 57: gears and threefold cuttings."""

from itertools import combinations, product
from unittest import TestCase

from eightworlds.errors import InvalidNumber, InvalidRow, InvalidSides, InvalidSign, InvalidThreefold, TooMany
from eightworlds.gears import comes_round, gear_product, is_threefold, rows_round, threefold_counts, threefold_of, threefolds
from eightworlds.polygons import counts_at
from tests import helpers
from tests.helpers import GREAT, SMALL
from tests.test_rows import WRONG_ROWS


def slow_product(row):
    """The product of the gears of a row."""
    result = ((1, 0), (0, 1))
    for item in row:
        gear = ((item, -1), (1, 0))
        result = tuple(
            tuple(sum(result[one][k] * gear[k][other] for k in (0, 1)) for other in (0, 1)) for one in (0, 1)
        )
    return result


def plates(corners, cuts):
    """The parts into which cuts cut the polygon of some corners, found by cutting it in two."""
    for low, high in cuts:
        if low in corners and high in corners:
            one, other = corners.index(low), corners.index(high)
            rest = [cut for cut in cuts if cut != (low, high)]
            inner, outer = corners[one:other + 1], corners[:one + 1] + corners[other:]
            return plates(inner, [cut for cut in rest if set(cut) <= set(inner)]) + plates(
                outer, [cut for cut in rest if set(cut) <= set(outer)])
    return [corners]


def slow_threefolds(sides):
    """All threefold cuttings, found by looking at all sets of cuts."""
    return sorted(
        cuts for many in range(sides - 2) for cuts in combinations(helpers.all_cuts(sides), many)
        if not any(helpers.meet_inside(one, other) for one, other in combinations(cuts, 2))
        and all(len(part) % 3 == 0 for part in plates(list(range(sides)), list(cuts)))
    )


def slow_threefold_counts(sides, cuts):
    """The counts of a threefold cutting."""
    return tuple(sum(corner in part for part in plates(list(range(sides)), list(cuts))) for corner in range(sides))


class Gears(TestCase):
    def test_products(self):
        rows = list(product(range(-2, 4), repeat=3)) + [(99,) * 40, (-99, 99) * 20, (0,) * 40, (1,) * 40, (2,) * 39]
        for row in rows:
            told = slow_product(row)
            self.assertEqual(gear_product(row), told)
            wanted = 1 if told == ((1, 0), (0, 1)) else -1 if told == ((-1, 0), (0, -1)) else None
            self.assertEqual(comes_round(row), wanted)

    def test_counts_of_cuttings_come_round(self):
        for cutting in SMALL + GREAT:
            self.assertEqual(comes_round(counts_at(cutting)), -1)

    def test_wrong_rows(self):
        for row in WRONG_ROWS:
            for call in (gear_product, comes_round, threefold_of):
                with self.assertRaises(InvalidRow):
                    call(row)


class Threefolds(TestCase):
    def test_all(self):
        for sides in range(3, 9):
            wanted = slow_threefolds(sides)
            self.assertEqual(threefolds(sides), wanted)
            for cuts in wanted:
                self.assertIs(is_threefold(sides, cuts), True)
                self.assertEqual(threefold_counts(sides, cuts), slow_threefold_counts(sides, cuts))
                self.assertEqual(slow_threefold_counts(sides, threefold_of(slow_threefold_counts(sides, cuts))),
                                 slow_threefold_counts(sides, cuts))

    def test_all_of_nine(self):
        told = threefolds(9)
        self.assertEqual(told, sorted(set(told)))
        self.assertEqual(len([cuts for cuts in told if len(cuts) == 6]), 429)
        # One piece of six sides and three of three; and one of nine.
        self.assertEqual(len([cuts for cuts in told if len(cuts) == 3]), 165)
        self.assertEqual(len([cuts for cuts in told if len(cuts) == 0]), 1)
        self.assertEqual(len(told), 595)
        self.assertTrue(all(is_threefold(9, cuts) for cuts in told))

    def test_what_is_one(self):
        for sides in (3, 4, 5, 6, 7):
            known = slow_threefolds(sides)
            for many in range(sides - 1):
                for cuts in combinations(helpers.all_cuts(sides), many):
                    self.assertIs(is_threefold(sides, cuts), cuts in known)

    def test_great_ones(self):
        for cutting in GREAT:
            self.assertIs(is_threefold(*cutting), True)
            self.assertEqual(threefold_counts(*cutting), counts_at(cutting))
            self.assertIs(is_threefold(cutting[0], cutting[1][1:]), False)
        self.assertIs(is_threefold(39, ()), True)
        self.assertIs(is_threefold(40, ()), False)
        self.assertIs(is_threefold(40, ((0, 2),)), True)
        self.assertIs(is_threefold(40, ((0, 20),)), True)
        self.assertIs(is_threefold(40, ((0, 19),)), False)
        self.assertEqual(threefold_counts(40, ((0, 20),)), (2,) + (1,) * 19 + (2,) + (1,) * 19)

    def test_wrong_values_are_none(self):
        wrong = helpers.OTHERS + helpers.INTS + list(helpers.spoiled(((0, 2), (0, 3)))) + [
            ((0, 3), (0, 2)), ((0, 2), (0, 2)), ((0, 2), (1, 3)), ((0, 4), (0, 2)), ((2, 0),), ((0, 1),), ((0, 4),), ((0, 5),),
            ((-1, 1),), helpers.all_cuts(5), tuple(helpers.all_cuts(5)), tuple(helpers.all_cuts(40))[:400],
        ]
        for value in wrong:
            self.assertIs(is_threefold(5, value), False, value)
            with self.assertRaises(InvalidThreefold):
                threefold_counts(5, value)
            for sides in (2, 41, True, None, "5"):
                with self.assertRaises(InvalidSides):
                    is_threefold(sides, value)
                with self.assertRaises(InvalidSides):
                    threefold_counts(sides, value)

    def test_too_many(self):
        for sides in (10, 40):
            with self.assertRaises(TooMany) as caught:
                threefolds(sides)
            self.assertEqual(caught.exception.limit, 9)
            with self.assertRaises(TooMany) as caught:
                threefold_of((2,) * sides)
            self.assertEqual(caught.exception.limit, 9)
        for sides in helpers.WRONG_SIDES:
            with self.assertRaises(InvalidSides):
                threefolds(sides)


class Rounds(TestCase):
    def test_all_small_rows(self):
        for many, most in ((3, 6), (4, 6), (5, 6), (6, 5)):
            rows = list(product(range(1, most), repeat=many))
            for sign in (1, -1):
                self.assertEqual(rows_round(many, sign), [row for row in rows if comes_round(row) == sign])
            known = {slow_threefold_counts(many, cuts) for cuts in slow_threefolds(many)}
            for row in rows:
                self.assertEqual(comes_round(row) is not None, row in known)
                found = threefold_of(row)
                self.assertEqual(found is None, row not in known)
                if found is not None:
                    self.assertIs(is_threefold(many, found), True)
                    self.assertEqual(threefold_counts(many, found), row)

    def test_the_sign_by_the_pieces(self):
        for sides in range(3, 9):
            for cuts in slow_threefolds(sides):
                even = [part for part in plates(list(range(sides)), list(cuts)) if len(part) % 2 == 0]
                row = slow_threefold_counts(sides, cuts)
                self.assertEqual(comes_round(row), -1 if len(even) % 2 == 0 else 1)
                if sides > 5:
                    self.assertIn(row, rows_round(sides, comes_round(row)))

    def test_eight(self):
        for sign in (1, -1):
            told = rows_round(8, sign)
            self.assertEqual(told, sorted(set(told)))
            self.assertTrue(all(comes_round(row) == sign and min(row) > 0 for row in told))
        self.assertEqual(len(rows_round(8, -1)), 132)
        self.assertEqual(rows_round(6, 1), [(1,) * 6])
        self.assertEqual(rows_round(3, -1), [(1, 1, 1)])

    def test_rows_of_other_numbers(self):
        self.assertIsNone(threefold_of((0, 1, 1)))
        self.assertIsNone(threefold_of((-99,) * 9))
        self.assertIsNone(threefold_of((99,) * 9))
        self.assertEqual(threefold_of((1,) * 9), ())

    def test_wrong_arguments(self):
        for many in helpers.wrong_ints(3, 8):
            with self.assertRaises(InvalidNumber):
                rows_round(many, 0)
        for sign in helpers.OTHERS + [0, 2, -2, 3, helpers.GREAT_INT, (1,), "1", "-1"]:
            with self.assertRaises(InvalidSign):
                rows_round(3, sign)
