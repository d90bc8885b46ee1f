"""Point 63: lengths."""

from fractions import Fraction
from itertools import combinations
from math import prod
from unittest import TestCase

from eightworlds.errors import InvalidCut, InvalidLengths, InvalidLine, TooMany
from eightworlds.exchanges import comes_for, exchanged
from eightworlds.friezes import frieze
from eightworlds.lengths import all_lengths, are_lengths, length, lengths_behind
from eightworlds.snakes import crossed, rails
from tests import helpers
from tests.helpers import GREAT, LITTLE, P, Q, TRIANGLE, fan, halved, zigzag
from tests.slow_pairings import all_pairings


def pair(fraction):
    """A fraction, as the program has it."""
    return (fraction.numerator, fraction.denominator)


def some_lengths(cutting, seed=1):
    """Lengths of a cutting, all unlike."""
    found = []
    for at in range(2 * cutting[0] - 3):
        found.append(pair(Fraction(at * seed + 2, (at * 7 + seed) % 5 + 1) + Fraction(1, at + seed + 1)))
    return tuple(found)


def slow_length(cutting, lengths, line):
    """The length of a line, by the words of the document."""
    own = {tie: Fraction(*share) for tie, share in zip(helpers.slow_ties(cutting), lengths)}
    if line in own:
        return pair(own[line])
    ties = dict(rails(cutting, line))
    above = sum(prod(own[ties[rail]] for rail in pairing) for pairing in all_pairings(list(ties)))
    return pair(above / prod(own[cut] for cut in crossed(cutting, line)))


SOME = LITTLE + [zigzag(8), fan(9, 4), halved(9)]


class Lengths(TestCase):
    def test_are_lengths(self):
        for cutting in LITTLE + GREAT:
            many = 2 * cutting[0] - 3
            for seed in (1, 2, 5):
                self.assertIs(are_lengths(cutting, some_lengths(cutting, seed)), True)
            self.assertIs(are_lengths(cutting, ((helpers.GREAT_INT, 1),) * many), True)
            self.assertIs(are_lengths(cutting, ((1, 2),) * (many - 1)), False)
            self.assertIs(are_lengths(cutting, ((1, 2),) * (many + 1)), False)
            for wrong in ((0, 1), (-1, 2), (1, 0), (2, 4), (1, -1), (True, 1), (1, 2, 3), [1, 2], 1, None):
                self.assertIs(are_lengths(cutting, ((1, 2),) * (many - 1) + (wrong,)), False)
                self.assertIs(are_lengths(cutting, (wrong,) + ((1, 2),) * (many - 1)), False)
            self.assertIs(are_lengths(cutting, [(1, 2)] * many), False)

    def test_length(self):
        for cutting in SOME:
            for seed in (1, 3):
                lengths = some_lengths(cutting, seed)
                lines = list(combinations(range(cutting[0]), 2))
                wanted = [slow_length(cutting, lengths, line) for line in lines]
                self.assertEqual([length(cutting, lengths, line) for line in lines], wanted)
                told = all_lengths(cutting, lengths)
                self.assertIsInstance(told, list)
                self.assertEqual(told, wanted)

    def test_ties_have_their_own_length(self):
        for cutting in LITTLE + GREAT:
            lengths = some_lengths(cutting, 4)
            for tie, share in list(zip(helpers.slow_ties(cutting), lengths))[::3]:
                self.assertEqual(length(cutting, lengths, tie), share)
        self.assertEqual(all_lengths(TRIANGLE, ((3, 1), (1, 2), (7, 5))), [(3, 1), (1, 2), (7, 5)])

    def test_all_ones_tell_the_numbers_of_pairings(self):
        for cutting in LITTLE + GREAT:
            told, ones = frieze(cutting), ((1, 1),) * (2 * cutting[0] - 3)
            for first, last in list(combinations(range(cutting[0]), 2))[::max(1, cutting[0] // 3)]:
                self.assertEqual(length(cutting, ones, (first, last)), (told[first][last], 1))


class Behind(TestCase):
    def test_lengths_behind(self):
        for cutting in SOME:
            lengths = some_lengths(cutting, 2)
            own = dict(zip(helpers.slow_ties(cutting), lengths))
            for cut in cutting[1]:
                new, other = helpers.slow_exchange(cutting, cut)
                own_then = {**own, new: slow_length(cutting, lengths, new)}
                told = lengths_behind(cutting, lengths, cut)
                self.assertEqual(told, tuple(own_then[tie] for tie in helpers.slow_ties(other)))
                self.assertIs(are_lengths(other, told), True)
                self.assertEqual(lengths_behind(other, told, new), lengths)
                self.assertEqual(all_lengths(other, told), all_lengths(cutting, lengths))

    def test_exchanges_change_no_length(self):
        for cutting in GREAT[:6]:
            lengths = some_lengths(cutting, 3)
            lines = [(0, cutting[0] - 2), (1, cutting[0] - 1), (2, 5)]
            wanted = [length(cutting, lengths, line) for line in lines]
            for step in range(5):
                cut = cutting[1][(step * 5 + 1) % len(cutting[1])]
                cutting, lengths = exchanged(cutting, cut), lengths_behind(cutting, lengths, cut)
                self.assertEqual([length(cutting, lengths, line) for line in lines], wanted)

    def test_four_corners(self):
        for cutting in LITTLE + [zigzag(8), halved(9), zigzag(11)]:
            lengths = some_lengths(cutting, 6)
            told = {
                line: Fraction(*share)
                for line, share in zip(combinations(range(cutting[0]), 2), all_lengths(cutting, lengths))
            }
            for a, b, c, d in combinations(range(cutting[0]), 4):
                self.assertEqual(told[a, c] * told[b, d], told[a, b] * told[c, d] + told[a, d] * told[b, c])

    def test_great_integers(self):
        great = ((helpers.GREAT_INT, 1), (1, helpers.GREAT_INT), (1, 1), (helpers.GREAT_INT, 2), (3, 7))
        told = lengths_behind(Q, great, (0, 2))
        self.assertEqual(Fraction(*told[3]), Fraction(*slow_length(Q, great, (1, 3))))
        self.assertEqual(told[3], length(Q, great, (1, 3)))


class WrongLengths(TestCase):
    def test_order_of_errors(self):
        ones = ((1, 1),) * 7
        with self.assertRaises(InvalidLengths):
            length(P, ones[1:], None)
        with self.assertRaises(InvalidLine):
            length(P, ones, (4, 1))
        with self.assertRaises(InvalidLengths):
            lengths_behind(P, ones[1:], None)
        for cut in ((1, 3), (0, 1), (2, 0), [0, 2]):
            with self.assertRaises(InvalidCut):
                lengths_behind(P, ones, cut)
        with self.assertRaises(InvalidCut):
            lengths_behind(TRIANGLE, ones[:3], (0, 2))

    def test_too_many(self):
        for sides in (13, 40):
            with self.assertRaises(TooMany) as caught:
                all_lengths(fan(sides), ((1, 1),) * (2 * sides - 3))
            self.assertEqual(caught.exception.limit, 12)
            with self.assertRaises(InvalidLengths):
                all_lengths(fan(sides), ((1, 1),) * (2 * sides - 4))
        self.assertEqual(len(all_lengths(zigzag(12), ((1, 2),) * 21)), 66)
        self.assertEqual(comes_for(Q, (0, 2)), (1, 3))
