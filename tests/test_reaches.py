"""Point 92: reaches."""

from fractions import Fraction
from itertools import combinations
from unittest import TestCase

from eightworlds.errors import InvalidCorner, InvalidCutting, InvalidLengths, InvalidShare
from eightworlds.friezes import frieze
from eightworlds.lengths import are_lengths, length, lengths_behind
from eightworlds.names import name
from eightworlds.pairings import count_pairings
from eightworlds.polygons import ties
from eightworlds.reaches import all_reaches, reach, scaled
from eightworlds.sums import value_by
from tests import helpers
from tests.helpers import GREAT, LITTLE, P, Q, TRIANGLE, fan, halved, zigzag
from tests.test_lengths import pair, slow_length, some_lengths


def gone_along(cutting, lengths, cut):
    """The cutting and the lengths behind an exchange, by the words of the document."""
    own = {tie: Fraction(*share) for tie, share in zip(helpers.slow_ties(cutting), lengths)}
    new, behind = helpers.slow_exchange(cutting, cut)
    a, b, c, d = sorted(cut + new)
    own[new] = (own[a, b] * own[c, d] + own[b, c] * own[a, d]) / own[cut]
    return behind, tuple(pair(own[tie]) for tie in helpers.slow_ties(behind))


def slow_reach(cutting, lengths, first, last):
    """The length that two corners have behind exchanges to a cutting with their tie: a fan of the one."""
    corner, other = min(first, last), max(first, last)
    while (corner, other) not in helpers.slow_ties(cutting):
        cut = next(
            cut for cut in cutting[1] if corner not in cut and corner in helpers.slow_exchange(cutting, cut)[0]
        )
        cutting, lengths = gone_along(cutting, lengths, cut)
    return lengths[helpers.slow_ties(cutting).index((corner, other))]


SOME = LITTLE + [zigzag(8), fan(9, 4), halved(9)]


class Reaches(TestCase):
    def test_behind_exchanges(self):
        for cutting in SOME:
            for seed in (1, 4):
                lengths = some_lengths(cutting, seed)
                pairs = list(combinations(range(cutting[0]), 2))
                wanted = tuple(slow_reach(cutting, lengths, *one) for one in pairs)
                told = all_reaches(cutting, lengths)
                self.assertIsInstance(told, tuple)
                self.assertEqual(told, wanted)
                for (first, last), share in zip(pairs, wanted):
                    self.assertEqual(reach(cutting, lengths, first, last), share)
                    self.assertEqual(reach(cutting, lengths, last, first), share)

    def test_reaches_are_lengths_of_lines(self):
        for cutting in SOME:
            lengths = some_lengths(cutting, 2)
            for line in combinations(range(cutting[0]), 2):
                self.assertEqual(reach(cutting, lengths, *line), slow_length(cutting, lengths, line))
        for cutting in GREAT:
            lengths = some_lengths(cutting, 3)
            for first, last in ((0, cutting[0] - 1), (1, cutting[0] // 2), (cutting[0] - 2, 2), (3, 4)):
                self.assertEqual(
                    reach(cutting, lengths, first, last), length(cutting, lengths, (min(first, last), max(first, last)))
                )

    def test_the_triangle(self):
        own = ((3, 1), (1, 2), (7, 5))
        self.assertEqual(all_reaches(TRIANGLE, own), own)
        self.assertEqual(reach(TRIANGLE, own, 2, 0), (1, 2))

    def test_ties_have_their_own_length(self):
        for cutting in LITTLE + GREAT[:12]:
            lengths = some_lengths(cutting, 5)
            for tie, share in list(zip(helpers.slow_ties(cutting), lengths))[::3]:
                self.assertEqual(reach(cutting, lengths, *tie), share)

    def test_great_integers(self):
        great = helpers.GREAT_INT
        own = ((great, 1), (1, great), (great, 2), (great - 1, great), (3, 7))
        self.assertEqual(all_reaches(Q, own)[4], slow_length(Q, own, (1, 3)))
        for cutting in (zigzag(13), fan(13, 5)):
            own = tuple((great - at, great - at - 1) for at in range(23))
            self.assertEqual(reach(cutting, own, 0, 6), slow_length(cutting, own, (0, 6)))


class Guarantees(TestCase):
    def test_they_stay_whatever_is_exchanged(self):
        for cutting in LITTLE + [zigzag(8), halved(9)]:
            lengths = some_lengths(cutting, 7)
            wanted = all_reaches(cutting, lengths)
            for cut in cutting[1]:
                behind, own = gone_along(cutting, lengths, cut)
                self.assertEqual(lengths_behind(cutting, lengths, cut), own)
                self.assertEqual(all_reaches(behind, own), wanted)
                for other in behind[1]:
                    self.assertEqual(all_reaches(*gone_along(behind, own, other)), wanted)
        for cutting in (zigzag(40), fan(40, 7)):
            lengths = some_lengths(cutting, 2)
            wanted = all_reaches(cutting, lengths)
            for step in range(20):
                cutting, lengths = gone_along(cutting, lengths, cutting[1][(step * 7 + 3) % 37])
            self.assertEqual(all_reaches(cutting, lengths), wanted)

    def test_four_corners(self):
        for cutting in LITTLE + [zigzag(9), halved(11)]:
            lengths = some_lengths(cutting, 3)
            told = {
                one: Fraction(*share) for one, share in zip(combinations(range(cutting[0]), 2), all_reaches(cutting, lengths))
            }
            for a, b, c, d in combinations(range(cutting[0]), 4):
                self.assertEqual(told[a, c] * told[b, d], told[a, b] * told[c, d] + told[b, c] * told[a, d])

    def test_all_ones(self):
        for cutting in helpers.SMALL + GREAT:
            ones = ((1, 1),) * (2 * cutting[0] - 3)
            told = dict(zip(combinations(range(cutting[0]), 2), all_reaches(cutting, ones)))
            numbers = frieze(cutting)
            for (first, last), share in told.items():
                self.assertEqual(share, (numbers[first][last], 1))
            for line in list(told)[::max(1, len(told) // 9)]:
                self.assertEqual(told[line], (count_pairings(cutting, line), 1))

    def test_names_at_one(self):
        for cutting in LITTLE:
            ones = ((1, 1),) * (2 * cutting[0] - 3)
            for line in combinations(range(cutting[0]), 2):
                some = name(cutting, line)
                self.assertEqual(value_by(cutting, some, ones), reach(cutting, ones, *line))
                self.assertEqual(len(some), reach(cutting, ones, *line)[0])
                lengths = some_lengths(cutting, 2)
                self.assertEqual(value_by(cutting, some, lengths), reach(cutting, lengths, *line))


class Scaled(TestCase):
    def test_scaled(self):
        for cutting in SOME + GREAT[:3]:
            lengths = some_lengths(cutting, 2)
            for corner in range(0, cutting[0], max(1, cutting[0] // 7)):
                for share in ((1, 1), (2, 3), (1000, 999), (1, 1000)):
                    told = scaled(cutting, lengths, corner, share)
                    wanted = [
                        pair(Fraction(*own) * (Fraction(*share) if corner in tie else 1))
                        for tie, own in zip(helpers.slow_ties(cutting), lengths)
                    ]
                    self.assertEqual(told, tuple(wanted))
                    self.assertIs(are_lengths(cutting, told), True)
                    self.assertEqual(scaled(cutting, told, corner, share[::-1]), lengths)

    def test_reaches_are_scaled_likewise(self):
        for cutting in LITTLE:
            lengths = some_lengths(cutting, 5)
            for corner in range(cutting[0]):
                told = all_reaches(cutting, scaled(cutting, lengths, corner, (3, 7)))
                for line, share, ahead in zip(combinations(range(cutting[0]), 2), told, all_reaches(cutting, lengths)):
                    self.assertEqual(Fraction(*share), Fraction(*ahead) * (Fraction(3, 7) if corner in line else 1))


class WrongReaches(TestCase):
    def test_corners(self):
        ones = ((1, 1),) * 7
        for wrong in helpers.wrong_ints(0, 4):
            for first, last in ((wrong, 1), (1, wrong), (wrong, wrong)):
                with self.assertRaises(InvalidCorner):
                    reach(P, ones, first, last)
        for corner in range(5):
            with self.assertRaises(InvalidCorner):
                reach(P, ones, corner, corner)
        for wrong in ((2, 4), (0, 1), (1001, 1), (1, 1001), (-1, 2), 1, None, (True, 2)):
            with self.assertRaises(InvalidShare):
                scaled(P, ones, 0, wrong)

    def test_order(self):
        ones = ((1, 1),) * 7
        with self.assertRaises(InvalidCutting):
            reach((5, ()), None, None, None)
        with self.assertRaises(InvalidLengths):
            reach(P, ones[1:], 9, 9)
        with self.assertRaises(InvalidLengths):
            scaled(P, ones[1:], 9, None)
        with self.assertRaises(InvalidCorner):
            scaled(P, ones, 5, None)
        with self.assertRaises(InvalidLengths):
            all_reaches(P, ones + ones)
        self.assertEqual(len(ties(P)), 7)
