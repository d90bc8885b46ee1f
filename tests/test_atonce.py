"""Point 86: cuts exchanged at once, and rounds."""

from itertools import combinations, permutations
from unittest import TestCase

from eightworlds.atonce import can_at_once, count_at_once, exchanged_at_once, fewest_rounds, most_at_once
from eightworlds.errors import InvalidCuts, InvalidCutting, TooMany, Unlike
from eightworlds.exchanges import comes_for
from tests import helpers
from tests.helpers import GREAT, H, LITTLE, P, Q, SMALL, TRIANGLE, Z, fan, halved, zigzag
from tests.slow_ways import CUTTINGS, one_step, walk


def slow_rounds(cutting):
    """All ascending tuples of cuts that can be exchanged at once, by the words of the document."""
    pieces = helpers.slow_pieces(cutting)
    return [
        cuts for many in range(1, len(cutting[1]) + 1) for cuts in combinations(cutting[1], many)
        if not any(set(one) | set(other) <= set(piece) for one, other in combinations(cuts, 2) for piece in pieces)
    ]


def behind(cutting, cuts):
    """The cutting behind a round, by the words of the document."""
    new = [helpers.slow_exchange(cutting, cut)[0] for cut in cuts]
    return (cutting[0], tuple(sorted(set(cutting[1]) - set(cuts) | set(new))))


ROUNDS = {cutting: slow_rounds(cutting) for cutting in SMALL}
BESIDE = {cutting: [behind(cutting, cuts) for cuts in rounds] for cutting, rounds in ROUNDS.items()}


class AtOnce(TestCase):
    def test_all_sets_of_cuts(self):
        for cutting in LITTLE:
            known = helpers.all_cuts(cutting[0])
            for many in range(4):
                for cuts in combinations(known, many):
                    wanted = cuts in ROUNDS[cutting]
                    self.assertIs(can_at_once(cutting, cuts), wanted)
                    if wanted:
                        self.assertEqual(exchanged_at_once(cutting, cuts), behind(cutting, cuts))
                    else:
                        with self.assertRaises(InvalidCuts):
                            exchanged_at_once(cutting, cuts)

    def test_counts(self):
        for cutting in SMALL:
            self.assertEqual(count_at_once(cutting), len(ROUNDS[cutting]))
            self.assertEqual(most_at_once(cutting), max(map(len, ROUNDS[cutting]), default=0))
        for cutting in (fan(9, 4), zigzag(10), halved(11), halved(9), zigzag(12)):
            some = slow_rounds(cutting)
            self.assertEqual(count_at_once(cutting), len(some))
            self.assertEqual(most_at_once(cutting), max(map(len, some)))

    def test_great_ones(self):
        # The pieces of a fan, and those of a zigzag, follow one another; so no two next cuts are taken.
        numbers = [1, 2]
        while len(numbers) < 38:
            numbers.append(numbers[-1] + numbers[-2])
        for cutting in (fan(40), zigzag(40), fan(40, 17)):
            self.assertEqual(count_at_once(cutting), numbers[37] - 1)
            self.assertEqual(most_at_once(cutting), 19)
        for cutting in GREAT:
            self.assertGreaterEqual(count_at_once(cutting), len(cutting[1]))
            every = cutting[1][::1]
            self.assertIs(can_at_once(cutting, every[:1]), True)
            self.assertEqual(exchanged_at_once(cutting, every[:1]), helpers.slow_exchange(cutting, every[0])[1])

    def test_no_cut_can_be_exchanged(self):
        self.assertEqual((count_at_once(TRIANGLE), most_at_once(TRIANGLE)), (0, 0))
        self.assertIs(can_at_once(TRIANGLE, ()), False)
        with self.assertRaises(InvalidCuts):
            exchanged_at_once(TRIANGLE, ())

    def test_what_cannot(self):
        for value in helpers.OTHERS + helpers.INTS + [
            ((3, 5), (0, 2)), ((0, 2), (0, 2)), [(0, 2)], ([0, 2],), ((2, 0),), ((False, 2),), ((0, 2), None), (0, 2),
            ((0, 1),), ((0, 3),), ((0, 2), (2, 5)), ((0, 2),) * 400, ((0, 2), (3, 5), (3, 5)),
        ]:
            self.assertIs(can_at_once(Z, value), False)
            with self.assertRaises(InvalidCuts):
                exchanged_at_once(Z, value)

    def test_the_order_does_not_count(self):
        for cutting in SMALL:
            for cuts in ROUNDS[cutting]:
                told = exchanged_at_once(cutting, cuts)
                for way in permutations(cuts):
                    self.assertEqual(walk(cutting, way)[-1], told)
                back = tuple(sorted(comes_for(cutting, cut) for cut in cuts))
                self.assertEqual(exchanged_at_once(told, back), cutting)


class Rounds(TestCase):
    def test_fewest_rounds(self):
        for sides in range(3, 7):
            far = one_step(CUTTINGS[sides], BESIDE)
            for (one, other), many in far.items():
                self.assertEqual(fewest_rounds(one, other), many)
                self.assertEqual(fewest_rounds(other, one), many)
        some = CUTTINGS[7][::9]
        far = one_step(some, BESIDE)
        for one in some:
            for other in CUTTINGS[7]:
                self.assertEqual(fewest_rounds(one, other), far[one, other])

    def test_errors(self):
        for one, other in ((fan(8), fan(8)), (zigzag(40), fan(40))):
            with self.assertRaises(TooMany) as caught:
                fewest_rounds(one, other)
            self.assertEqual(caught.exception.limit, 7)
        with self.assertRaises(Unlike):
            fewest_rounds(fan(8), fan(9))
        with self.assertRaises(Unlike):
            fewest_rounds(P, Q)
        with self.assertRaises(InvalidCutting):
            fewest_rounds(fan(9), (8, ()))
        with self.assertRaises(InvalidCutting):
            fewest_rounds((9, ()), H)
        for call in (count_at_once, most_at_once):
            with self.assertRaises(InvalidCutting):
                call((5, ()))
        with self.assertRaises(InvalidCutting):
            exchanged_at_once((5, ()), None)
