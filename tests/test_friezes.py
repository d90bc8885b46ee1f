"""Point 52: friezes."""

from fractions import Fraction
from itertools import combinations
from unittest import TestCase

from eightworlds.errors import InvalidFacts, InvalidFrieze, InvalidNumber, InvalidPlace, InvalidSides, TooMany
from eightworlds.friezes import frieze, frieze_cutting, frieze_determinant, friezes_with, is_frieze, row_number
from eightworlds.polygons import counts_at, ties
from tests import helpers
from tests.helpers import GREAT, P, SMALL, TRIANGLE

WRONG_FRIEZES = helpers.OTHERS + helpers.INTS + list(helpers.spoiled(frieze(P))) + list(helpers.spoiled(frieze(TRIANGLE)))
WRONG_FRIEZES += [frieze(helpers.Q)[:3], ((0, 1), (1, 0)), ((0,),), ((0, 0, 0),) * 3, ((1, 1, 1),) * 3, ((0,) * 41,) * 41]


def slow_number(row, place, steps):
    """The number of a row, by the words of the document."""
    if steps < 2:
        return steps
    less = slow_number(row, place, steps - 1) * row[(place + steps - 1) % len(row)]
    return less - slow_number(row, place, steps - 2)


def determinant(rows):
    """The determinant of a square of integers, by taking rows away from one another."""
    rows = [[Fraction(item) for item in row] for row in rows]
    result = Fraction(1)
    for at in range(len(rows)):
        found = next((other for other in range(at, len(rows)) if rows[other][at]), None)
        if found is None:
            return 0
        if found != at:
            rows[at], rows[found] = rows[found], rows[at]
            result = -result
        result *= rows[at][at]
        for other in range(at + 1, len(rows)):
            share = rows[other][at] / rows[at][at]
            rows[other] = [one - share * two for one, two in zip(rows[other], rows[at])]
    return result


class Numbers(TestCase):
    def test_row_number(self):
        for row in [(3, 1, 2, 2, 1), (2, 2, 2), (0, -3, 5, 1), (99, -99, 99), counts_at(helpers.fan(7, 3))]:
            for place in range(len(row)):
                for steps in range(15):
                    self.assertEqual(row_number(row, place, steps), slow_number(row, place, steps))

    def test_sixty_steps(self):
        self.assertEqual(row_number((2,) * 40, 39, 60), 60)
        self.assertEqual(row_number((1,) * 40, 0, 60), 0)
        self.assertEqual([row_number((1,) * 3, 1, steps) for steps in range(8)], [0, 1, 1, 0, -1, -1, 0, 1])
        one, other = 0, 1
        for _ in range(59):
            one, other = other, 99 * other - one
        self.assertEqual(row_number((99, 99, 99), 2, 60), other)

    def test_wrong_places_and_numbers(self):
        for place in helpers.wrong_ints(0, 4, 5, -1):
            with self.assertRaises(InvalidPlace):
                row_number((3, 1, 2, 2, 1), place, None)
        for steps in helpers.wrong_ints(0, 60):
            with self.assertRaises(InvalidNumber):
                row_number((3, 1, 2, 2, 1), 0, steps)


class Friezes(TestCase):
    def test_frieze(self):
        for cutting in SMALL + GREAT[:9]:
            row, told = helpers.slow_counts(cutting), frieze(cutting)
            corners = range(cutting[0])
            wanted = [[slow_number(row, min(i, j), abs(i - j)) if i != j else 0 for j in corners] for i in corners]
            self.assertEqual(told, tuple(map(tuple, wanted)))
            self.assertEqual(frieze_cutting(told), cutting)
            self.assertIs(is_frieze(told), True)

    def test_products_across_and_ones(self):
        for cutting in SMALL + GREAT:
            told = frieze(cutting)
            corners = range(cutting[0])
            ones = [(i, j) for i, j in combinations(corners, 2) if told[i][j] == 1]
            self.assertEqual(ones, ties(cutting))
            some = list(combinations(corners, 4))
            for i, j, k, z in some[::1 if len(some) < 100 else 997]:
                self.assertEqual(told[i][k] * told[j][z], told[i][j] * told[k][z] + told[i][z] * told[j][k])
            self.assertTrue(all(told[i][j] == told[j][i] > 0 for i, j in combinations(corners, 2)))
            self.assertTrue(all(told[i][i] == 0 for i in corners))

    def test_determinants(self):
        for cutting in SMALL + GREAT:
            told = frieze_determinant(cutting)
            self.assertEqual(told, -(-2) ** (cutting[0] - 2))
            self.assertIsInstance(told, int)
            if cutting[0] < 14:
                self.assertEqual(told, determinant(frieze(cutting)))

    def test_all_friezes_come_so(self):
        for cutting in GREAT:
            self.assertEqual(frieze_cutting(frieze(cutting)), cutting)

    def test_wrong_values(self):
        for value in WRONG_FRIEZES:
            self.assertIs(is_frieze(value), False, value)
            with self.assertRaises(InvalidFrieze):
                frieze_cutting(value)

    def test_what_rows_that_come_round_have(self):
        # These rows come round with -1, so all their numbers fit; but they are the counts of no cutting.
        for row in ((1, 0, 0, 0, 0, 1, 1), (1, 150, 0, -149, 200, 0, -199), (1, 50, 0, -49, 70, 0, -69)):
            corners = range(len(row))
            told = tuple(
                tuple(slow_number(row, min(i, j), abs(i - j)) if i != j else 0 for j in corners) for i in corners
            )
            self.assertTrue(all(told[i - 1][i + 1 if i < 6 else 0] == row[i] for i in corners))
            self.assertIs(is_frieze(told), False)
            with self.assertRaises(InvalidFrieze):
                frieze_cutting(told)

    def test_near_ones(self):
        for cutting in (P, helpers.zigzag(8), helpers.fan(40)):
            told = frieze(cutting)
            for i in range(0, len(told), 3):
                for j in range(0, len(told), 3):
                    row = told[i][:j] + (told[i][j] + 1,) + told[i][j + 1:]
                    self.assertFalse(is_frieze(told[:i] + (row,) + told[i + 1:]))
            self.assertFalse(is_frieze(told[::-1][1:]))
            self.assertFalse(is_frieze(told + told[:1]))


class Facts(TestCase):
    def test_friezes_with(self):
        for sides in range(3, 7):
            all_of_them = sorted(frieze(cutting) for cutting in helpers.every_cutting(sides))
            self.assertEqual(friezes_with(sides, ()), all_of_them)
            for one, other in combinations(range(sides), 2):
                for number in range(6):
                    wanted = [told for told in all_of_them if told[one][other] == number]
                    self.assertEqual(friezes_with(sides, ((one, other, number),)), wanted)
                    facts = ((one, other, number), (0, sides - 1, 1), (0, 2, 2))
                    self.assertEqual(friezes_with(sides, facts), [told for told in wanted if told[0][2] == 2])

    def test_facts_that_do_not_go_together(self):
        self.assertEqual(friezes_with(5, ((0, 2, 1), (0, 2, 2))), [])
        self.assertEqual(friezes_with(5, ((0, 1, 0),)), [])
        self.assertEqual(friezes_with(8, ((0, 4, 999),)), [])
        self.assertEqual(len(friezes_with(8, ((0, 7, 1),) * 6)), 132)

    def test_wrong_facts(self):
        wrong = helpers.OTHERS + helpers.INTS + list(helpers.spoiled(((1, 4, 3),), lengths=False)) + [
            ((1, 4, 3),) * 7, ((4, 1, 3),), ((1, 1, 0),), ((1, 5, 3),), ((-1, 4, 3),), ((1, 4, 1000),), ((1, 4, -1),),
            ((1, 4),), ((1, 4, 3, 3),), ((1, 4, 3), (1, 4, True)), [(1, 4, 3)], ((1, 4, 3), [1, 4, 3]), ((),),
        ]
        for facts in wrong:
            with self.assertRaises(InvalidFacts):
                friezes_with(5, facts)
            with self.assertRaises(InvalidSides):
                friezes_with(2, facts)
        for facts in wrong[:-10]:
            with self.assertRaises(InvalidFacts):
                friezes_with(9, facts)

    def test_too_many(self):
        for sides in (9, 40):
            for facts in ((), ((0, sides - 1, 999),), ((7, 8, 0),) * 6):
                with self.assertRaises(TooMany) as caught:
                    friezes_with(sides, facts)
                self.assertEqual(caught.exception.limit, 8)
        with self.assertRaises(InvalidFacts):
            friezes_with(9, ((0, 9, 1),))
