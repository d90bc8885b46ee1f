"""Point 97: Gauged."""

from copy import deepcopy
from fractions import Fraction
from itertools import combinations
from unittest import TestCase

from eightworlds.errors import (
    InvalidCorner, InvalidCut, InvalidCutting, InvalidLengths, InvalidNumber, InvalidShare, InvalidTie, Unlike,
)
from eightworlds.exchanges import exchanged
from eightworlds.lengths import lengths_behind
from eightworlds.reaches import all_reaches, reach
from eightworlds.worldtexts import cutting_text, lengths_text
from eightworlds.worldvalues import Gauged
from tests import helpers
from tests.calls import CUT
from tests.calls_lines import LENGTHS
from tests.calls_states import SHARE
from tests.helpers import FAN, GREAT, H, LITTLE, P, Q, TRIANGLE, Z, fan, zigzag
from tests.slow_states import slow_led
from tests.test_lengths import pair, some_lengths

SOME = [(cutting, some_lengths(cutting, seed)) for cutting in LITTLE for seed in (1, 4)]
SOME += [(cutting, some_lengths(cutting, 2)) for cutting in GREAT[:5] + [zigzag(40)]]


def led(one, step):
    """The Gauged behind a step on a state with it, done slowly."""
    cutting, lengths, _, _ = slow_led((one.cutting, one.lengths, (0, 1), helpers.slow_pieces(one.cutting)[0]), step)
    return Gauged(cutting, lengths)


class Made(TestCase):
    def test_properties(self):
        for cutting, lengths in SOME:
            one = Gauged(cutting, lengths)
            self.assertEqual((one.cutting, one.lengths, len(one)), (cutting, lengths, cutting[0]))
            for name in ("cutting", "lengths"):
                with self.assertRaises(AttributeError):
                    setattr(one, name, getattr(one, name))

    def test_ones(self):
        for cutting in LITTLE + GREAT:
            one = Gauged.ones(cutting)
            self.assertIs(one.__class__, Gauged)
            self.assertEqual((one.cutting, one.lengths), (cutting, ((1, 1),) * (2 * cutting[0] - 3)))
            self.assertEqual(one, Gauged(cutting, ((1, 1),) * (2 * cutting[0] - 3)))

    def test_errors(self):
        for wrong in helpers.WRONG_CUTTINGS:
            with self.assertRaises(InvalidCutting):
                Gauged(wrong, None)
            with self.assertRaises(InvalidCutting):
                Gauged.ones(wrong)
        for wrong in LENGTHS[1]:
            with self.assertRaises(InvalidLengths):
                Gauged(P, wrong)

    def test_equal(self):
        for cutting, lengths in SOME:
            one = Gauged(cutting, lengths)
            self.assertTrue(one == Gauged(cutting, lengths))
            self.assertFalse(one != Gauged(cutting, lengths))
            self.assertFalse(one == Gauged(cutting, lengths[::-1]) and lengths != lengths[::-1])
            for other in helpers.OTHERS + [cutting, (cutting, lengths), [cutting, lengths], str(one), 0, object()]:
                self.assertIs(one == other, False)
                self.assertIs(other == one, False)
                self.assertIs(one != other, True)
        self.assertNotEqual(Gauged.ones(H), Gauged.ones(FAN))


class Operators(TestCase):
    def test_exchanged(self):
        for cutting, lengths in SOME:
            one = Gauged(cutting, lengths)
            for cut in cutting[1]:
                told = one ^ cut
                self.assertEqual(told.cutting, exchanged(cutting, cut))
                self.assertEqual(told.lengths, lengths_behind(cutting, lengths, cut))
                self.assertTrue(told.same(one))
                self.assertEqual((one.cutting, one.lengths), (cutting, lengths))
            for wrong in [(0, 1), (0, 99), (2, 0), None, True, "x", [0, 2], one]:
                with self.assertRaises(InvalidCut):
                    one ^ wrong
                with self.assertRaises(InvalidCut):
                    one ^= wrong
                self.assertEqual((one.cutting, one.lengths), (cutting, lengths))
        for wrong in CUT[1]:
            with self.assertRaises(InvalidCut):
                Gauged.ones(P) ^ wrong

    def test_exchanged_in_place(self):
        for cutting, lengths in SOME:
            for cut in cutting[1]:
                one = Gauged(cutting, lengths)
                held, other = one, Gauged(cutting, lengths)
                one ^= cut
                self.assertIs(one, held)
                self.assertEqual(one, other ^ cut)
                self.assertEqual((other.cutting, other.lengths), (cutting, lengths))
                new = (set(one.cutting[1]) - set(cutting[1])).pop()
                one ^= new
                self.assertEqual(one, other)

    def test_what_is_made_of_one_does_not_change_with_it(self):
        one = Gauged(P, some_lengths(P))
        some = [one ^ (0, 2), one << 1, ~one, one * (2, 3), Gauged(one.cutting, one.lengths)]
        before = deepcopy([(other.cutting, other.lengths) for other in some])
        one ^= (0, 3)
        self.assertEqual([(other.cutting, other.lengths) for other in some], before)
        kept = (one.cutting, one.lengths)
        for other in some:
            other ^= other.cutting[1][0]
        self.assertEqual((one.cutting, one.lengths), kept)

    def test_turned_and_mirrored(self):
        for cutting, lengths in SOME:
            one = Gauged(cutting, lengths)
            for steps in (0, 1, -1, 3, 39, -40):
                self.assertEqual(one << steps, led(one, ("turn", steps)))
            self.assertEqual(one << 1000, one << 1000 % cutting[0])
            self.assertEqual(one << -1000, one << -1000 % cutting[0])
            self.assertEqual(~one, led(one, ("mirror",)))
            self.assertEqual(~~one, one)
            for first, last in ((0, 1), (0, 2), (2, 1)):
                sides = cutting[0]
                self.assertEqual((one << 2)((first + 2) % sides, (last + 2) % sides), one(first, last))
                self.assertEqual((~one)(-first % sides, -last % sides), one(first, last))
            self.assertEqual((one.cutting, one.lengths), (cutting, lengths))
        for wrong in helpers.wrong_ints(-1000, 1000):
            with self.assertRaises(InvalidNumber):
                Gauged.ones(P) << wrong

    def test_times_a_share(self):
        for cutting, lengths in SOME:
            one = Gauged(cutting, lengths)
            for share in ((1, 1), (2, 3), (1000, 7), (1, 1000)):
                told = one * share
                self.assertEqual(told.cutting, cutting)
                self.assertEqual(told.lengths, tuple(pair(Fraction(*own) * Fraction(*share)) for own in lengths))
                self.assertEqual(told * share[::-1], one)
                self.assertEqual(Fraction(*told(0, 2)), Fraction(*one(0, 2)) * Fraction(*share))
            self.assertEqual((one.cutting, one.lengths), (cutting, lengths))
        for wrong in SHARE[1]:
            with self.assertRaises(InvalidShare):
                Gauged.ones(P) * wrong


class Asked(TestCase):
    def test_reaches(self):
        for cutting, lengths in SOME:
            one = Gauged(cutting, lengths)
            for first, last in list(combinations(range(cutting[0]), 2))[::max(1, cutting[0] // 3)]:
                self.assertEqual(one(first, last), reach(cutting, lengths, first, last))
                self.assertEqual(one(last, first), reach(cutting, lengths, first, last))
            for corner in range(cutting[0]):
                with self.assertRaises(InvalidCorner):
                    one(corner, corner)
        for wrong in helpers.wrong_ints(0, 4):
            for first, last in ((wrong, 1), (1, wrong), (wrong, wrong)):
                with self.assertRaises(InvalidCorner):
                    Gauged.ones(P)(first, last)

    def test_ties(self):
        for cutting, lengths in SOME:
            one = Gauged(cutting, lengths)
            known = helpers.slow_ties(cutting)
            for tie, share in zip(known, lengths):
                self.assertEqual(one[tie], share)
            for some in combinations(range(-1, min(cutting[0], 8) + 1), 2):
                self.assertIs(some in one, some in known)
                if some not in known:
                    with self.assertRaises(InvalidTie):
                        one[some]
        for wrong in helpers.OTHERS + helpers.INTS + [(1, 0), (False, 1), (0, True), [0, 1], (0, 1, 2), (0, 5), ((0, 1),), Gauged.ones(P)]:
            self.assertIs(wrong in Gauged.ones(P), False)
            with self.assertRaises(InvalidTie):
                Gauged.ones(P)[wrong]

    def test_truth(self):
        for cutting, lengths in SOME:
            one = Gauged(cutting, lengths)
            self.assertIs(bool(one), all(below == 1 for _, below in all_reaches(cutting, lengths)))
        for cutting in LITTLE + GREAT:
            self.assertIs(bool(Gauged.ones(cutting)), True)
            self.assertIs(bool(Gauged.ones(cutting) * (3, 1)), True)
            self.assertIs(bool(Gauged.ones(cutting) * (3, 2)), False)
        # All lengths are integers, but not the reach of the corners 1 and 3.
        self.assertIs(bool(Gauged(Q, ((1, 1), (2, 1), (1, 1), (1, 1), (2, 1)))), False)
        self.assertIs(bool(Gauged(Q, ((1, 1), (3, 1), (1, 1), (1, 1), (2, 1)))), True)
        self.assertIs(bool(Gauged(TRIANGLE, ((5, 1), (6, 1), (7, 2)))), False)

    def test_text(self):
        for cutting, lengths in SOME:
            self.assertEqual(str(Gauged(cutting, lengths)), cutting_text(cutting) + "; " + lengths_text(cutting, lengths))
        self.assertEqual(str(Gauged(TRIANGLE, ((5, 1), (1, 2), (7, 2)))), "3:; 5 1/2 7/2")
        self.assertTrue(str(Gauged(TRIANGLE, ((10 ** 5000, 1),) * 3)).endswith("0"))

    def test_no_iteration(self):
        one = Gauged.ones(P)
        for call in (iter, list, tuple, sorted, sum, lambda value: [item for item in value], lambda value: dict(value)):
            with self.assertRaises(TypeError):
                call(one)
        with self.assertRaises(TypeError):
            first, second = one


class Same(TestCase):
    def test_same(self):
        for cutting, lengths in SOME:
            one = Gauged(cutting, lengths)
            self.assertIs(one.same(one), True)
            for cut in cutting[1][:4]:
                other = one ^ cut
                self.assertIs(one.same(other), True)
                self.assertIs(other.same(one), True)
                self.assertIs(one.same(other * (2, 1)), False)
            for other in (one << 1, ~one, one * (2, 3)):
                wanted = all_reaches(one.cutting, one.lengths) == all_reaches(other.cutting, other.lengths)
                self.assertIs(one.same(other), wanted)
                self.assertIs(other.same(one), wanted)

    def test_all_pairs(self):
        for sides in (4, 5):
            some = [Gauged.ones(cutting) for cutting in LITTLE if cutting[0] == sides]
            for one in some:
                for other in some:
                    self.assertIs(one.same(other), one == other)

    def test_one_length_more(self):
        own = some_lengths(Z)
        for at in range(9):
            other = own[:at] + ((own[at][0] + own[at][1], own[at][1]),) + own[at + 1:]
            self.assertIs(Gauged(Z, own).same(Gauged(Z, other)), False)
            self.assertIs(Gauged(Z, other).same(Gauged(Z, own)), False)

    def test_unlike(self):
        for wrong in helpers.OTHERS + helpers.INTS + [P, (P, ((1, 1),) * 7), Gauged.ones(Q), Gauged.ones(H), Gauged, fan(5)]:
            with self.assertRaises(Unlike):
                Gauged.ones(P).same(wrong)
