"""Point 54: friezes by values."""

from fractions import Fraction
from itertools import combinations, product
from unittest import TestCase

from eightworlds.errors import InvalidCorners, InvalidValues, TooMany
from eightworlds.exchanges import comes_for, exchanged
from eightworlds.friezes import frieze
from eightworlds.valued import fraction_by, frieze_by, is_frieze_by, is_whole_by
from tests import helpers
from tests.helpers import LITTLE, P, Q, TRIANGLE


def some_values(cutting):
    """Some values of a cutting."""
    many = len(cutting[1])
    yield (1,) * many
    yield (2,) * many
    yield tuple(at * 7 % 5 + 1 for at in range(many))
    yield tuple(1000 - at * at for at in range(many))
    yield (1000,) * many


def slow_fractions(cutting, values):
    """What the frieze by values has for all pairs of corners, by exchanges until each pair was a tie."""
    sides, cuts = cutting
    found = {tie: Fraction(1) for tie in helpers.slow_ties(cutting)}
    found.update({cut: Fraction(value) for cut, value in zip(cuts, values)})
    seen, ahead = {cutting}, [cutting]
    while len(found) < sides * (sides - 1) // 2:
        now = ahead.pop(0)
        for cut in now[1]:
            new, behind = helpers.slow_exchange(now, cut)
            if behind not in seen:
                seen.add(behind)
                ahead.append(behind)
                a, b, c, d = sorted(cut + new)
                product_of = found[a, b] * found[c, d] + found[a, d] * found[b, c]
                found.setdefault(new, product_of / found[cut])
    return found


class ByValues(TestCase):
    def test_small_ones(self):
        for cutting in LITTLE:
            for values in some_values(cutting):
                told, wanted = frieze_by(cutting, values), slow_fractions(cutting, values)
                for i, j in product(range(cutting[0]), repeat=2):
                    value = wanted[min(i, j), max(i, j)] if i != j else Fraction(0)
                    self.assertEqual(told[i][j], (value.numerator, value.denominator))
                    self.assertEqual(fraction_by(cutting, values, i, j), told[i][j])
                self.assertIs(is_frieze_by(cutting, values, told), True)
                whole = all(value.denominator == 1 for value in wanted.values())
                self.assertIs(is_whole_by(cutting, values), whole)

    def test_all_ones_give_the_frieze(self):
        for cutting in LITTLE + [helpers.zigzag(12), helpers.halved(12)]:
            told = frieze_by(cutting, (1,) * (cutting[0] - 3))
            self.assertEqual(told, tuple(tuple((number, 1) for number in row) for row in frieze(cutting)))

    def test_what_a_frieze_by_values_is(self):
        for cutting in (helpers.zigzag(12), helpers.fan(12, 5), helpers.halved(11), helpers.zigzag(9)):
            for values in some_values(cutting):
                told = [[Fraction(*item) for item in row] for row in frieze_by(cutting, values)]
                sides = cutting[0]
                for i in range(sides):
                    self.assertEqual(told[i][(i + 1) % sides], 1)
                    self.assertEqual(told[i][i], 0)
                for i, j in combinations(range(sides), 2):
                    self.assertEqual(told[i][j], told[j][i])
                    self.assertTrue(told[i][j] > 0)
                for cut, value in zip(cutting[1], values):
                    self.assertEqual(told[cut[0]][cut[1]], value)
                for i, j, k, z in combinations(range(sides), 4):
                    self.assertEqual(told[i][k] * told[j][z], told[i][j] * told[k][z] + told[i][z] * told[j][k])

    def test_an_exchange_leads_to_the_same(self):
        seen = 0
        for cutting in LITTLE:
            for values in some_values(cutting):
                known = dict(zip(cutting[1], values))
                for cut in cutting[1]:
                    new, behind = comes_for(cutting, cut), exchanged(cutting, cut)
                    top, below = fraction_by(cutting, values, *new)
                    if below == 1 and top <= 1000:
                        seen += 1
                        others = tuple(known.get(other, top) for other in behind[1])
                        self.assertEqual(frieze_by(behind, others), frieze_by(cutting, values))
        self.assertTrue(seen > 50)

    def test_a_triangle(self):
        self.assertEqual(frieze_by(TRIANGLE, ()), (((0, 1), (1, 1), (1, 1)), ((1, 1), (0, 1), (1, 1)), ((1, 1), (1, 1), (0, 1))))
        self.assertIs(is_whole_by(TRIANGLE, ()), True)

    def test_wrong_values_are_no_frieze(self):
        told = frieze_by(Q, (2,))
        for value in helpers.OTHERS + helpers.INTS + list(helpers.spoiled(told)):
            self.assertIs(is_frieze_by(Q, (2,), value), False)
        self.assertIs(is_frieze_by(Q, (3,), told), False)
        doubled = tuple(tuple((2 * top, 2 * below) for top, below in row) for row in told)
        self.assertIs(is_frieze_by(Q, (2,), doubled), False)

    def test_wrong_arguments(self):
        calls = (frieze_by, is_whole_by, lambda *some: is_frieze_by(*some, None), lambda *some: fraction_by(*some, 9, 9))
        wrong = helpers.OTHERS + helpers.INTS + list(helpers.spoiled((1, 2))) + [(0, 1), (1, 1001), (-1, 1), [1, 1], (1,) * 3]
        for call in calls:
            for values in wrong:
                with self.assertRaises(InvalidValues):
                    call(P, values)
            with self.assertRaises(InvalidValues):
                call(helpers.fan(13), (1,) * 9)
            with self.assertRaises(InvalidValues):
                call(TRIANGLE, None)
        for corner in helpers.wrong_ints(0, 4):
            with self.assertRaises(InvalidCorners):
                fraction_by(P, (1, 1), corner, 0)
            with self.assertRaises(InvalidCorners):
                fraction_by(P, (1, 1), 0, corner)

    def test_too_many(self):
        for sides in (13, 40):
            arguments = (helpers.fan(sides), (1,) * (sides - 3))
            for call in (frieze_by, is_whole_by, lambda *some: is_frieze_by(*some, 1), lambda *some: fraction_by(*some, 0, 0)):
                with self.assertRaises(TooMany) as caught:
                    call(*arguments)
                self.assertEqual(caught.exception.limit, 12)
            with self.assertRaises(InvalidCorners):
                fraction_by(*arguments, 0, sides)
