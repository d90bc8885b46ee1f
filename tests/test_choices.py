"""Point 53: choices of pieces."""

from itertools import combinations, product
from unittest import TestCase

from eightworlds.choices import count_choices, is_choice, piece_choices
from eightworlds.errors import InvalidCorners, TooMany
from eightworlds.friezes import frieze
from tests import helpers
from tests.helpers import GREAT, LITTLE, P, SMALL


def slow_choices(cutting, first, last):
    """All choices, found by looking at all tuples of pieces."""
    known = helpers.slow_pieces(cutting)
    return [
        some for some in product(known, repeat=last - first - 1)
        if len(set(some)) == len(some) and all(first + at + 1 in piece for at, piece in enumerate(some))
    ]


class Choices(TestCase):
    def test_all(self):
        for cutting in LITTLE + [helpers.zigzag(7)]:
            for first, last in combinations(range(cutting[0]), 2):
                wanted = slow_choices(cutting, first, last)
                told = piece_choices(cutting, first, last)
                self.assertIsInstance(told, list)
                self.assertEqual(told, wanted)
                self.assertEqual(count_choices(cutting, first, last), len(wanted))
                for some in product(helpers.slow_pieces(cutting), repeat=min(last - first - 1, 3)):
                    self.assertIs(is_choice(cutting, first, last, some), some in wanted)

    def test_as_many_as_the_number_of_the_frieze(self):
        for cutting in SMALL + GREAT[:6]:
            told = frieze(cutting)
            for first, last in combinations(range(cutting[0]), 2):
                self.assertEqual(count_choices(cutting, first, last), told[first][last])
                self.assertEqual(len(piece_choices(cutting, first, last)), told[first][last])

    def test_great_ones(self):
        for cutting in GREAT:
            told, sides = frieze(cutting), cutting[0]
            for first, last in ((0, 1), (0, sides // 2), (1, sides - 1), (0, sides - 1), (3, sides - 2)):
                self.assertEqual(count_choices(cutting, first, last), told[first][last])
            whole = tuple(sorted(helpers.slow_pieces(cutting), key=lambda piece: piece[1]))
            self.assertIs(is_choice(cutting, 0, sides - 1, whole), True)
            self.assertIs(is_choice(cutting, 0, sides - 1, whole[::-1]), False)
            self.assertIs(is_choice(cutting, 0, sides - 1, whole[:1] * len(whole)), False)

    def test_wrong_values_are_none(self):
        choice = ((0, 1, 2), (0, 2, 3))
        for value in helpers.OTHERS + helpers.INTS + list(helpers.spoiled(choice)):
            self.assertIs(is_choice(P, 1, 4, value), False, value)
        self.assertIs(is_choice(P, 1, 4, ((0, 2, 1), (0, 2, 3))), False)
        self.assertIs(is_choice(P, 1, 4, ((1, 2, 3), (0, 2, 3))), False)
        self.assertIs(is_choice(P, 1, 2, ()), True)
        self.assertIs(is_choice(P, 1, 2, ((0, 1, 2),)), False)
        self.assertIs(is_choice(P, 1, 2, []), False)

    def test_wrong_corners(self):
        calls = (piece_choices, count_choices, lambda *some: is_choice(*some, ()))
        for call in calls:
            for corner in helpers.wrong_ints(0, 4):
                with self.assertRaises(InvalidCorners):
                    call(P, corner, 4)
                with self.assertRaises(InvalidCorners):
                    call(P, 0, corner)
            for first, last in ((1, 1), (4, 1), (0, 0), (4, 4), (0, 5), (-1, 3)):
                with self.assertRaises(InvalidCorners):
                    call(P, first, last)

    def test_too_many(self):
        for sides in (10, 40):
            with self.assertRaises(TooMany) as caught:
                piece_choices(helpers.fan(sides), 0, 1)
            self.assertEqual(caught.exception.limit, 9)
            with self.assertRaises(InvalidCorners):
                piece_choices(helpers.fan(sides), 1, 1)
