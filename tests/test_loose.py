"""Points 87 and 88: loose cuttings."""

from itertools import combinations
from unittest import TestCase

from eightworlds.errors import Crossing, InvalidCut, InvalidLoose, TooMany, Unlike
from eightworlds.exchanges import exchanged
from eightworlds.loose import (
    common_cuts, count_full, cut_in, cut_out, face_counts, full_cuttings, is_loose, joined_cuts, lies_in, plate_counts,
    plates, slid, slid_back,
)
from eightworlds.polygons import is_cutting, pieces
from tests import helpers
from tests.helpers import GREAT, P, SMALL, TRIANGLE, fan, zigzag
from tests.slow_ways import CUTTINGS, GREAT_LOOSE, LITTLE_LOOSE, LOOSE, slow_fields


def slow_slid(loose, cut, steps):
    """A loose cutting in which a cut is slid, by the words of the document."""
    rest = [other for other in loose[1] if other != cut]
    plate = next(plate for plate in slow_fields(loose[0], rest) if set(cut) <= set(plate))
    ends = tuple(sorted(plate[(plate.index(corner) + steps) % len(plate)] for corner in cut))
    return (loose[0], tuple(sorted(rest + [ends])))


def above(loose):
    """All loose cuttings of up to 7 sides in which a loose cutting lies."""
    return [other for other in LOOSE[loose[0]] if set(loose[1]) <= set(other[1])]


class Loose(TestCase):
    def test_is_loose(self):
        for sides in range(3, 7):
            for many in range(4):
                for cuts in combinations(helpers.all_cuts(sides), many):
                    self.assertIs(is_loose((sides, cuts)), (sides, cuts) in LOOSE[sides])
                    if len(cuts) > 1:
                        self.assertIs(is_loose((sides, cuts[::-1])), False)
        for value in SMALL + GREAT + GREAT_LOOSE:
            self.assertIs(is_loose(value), True)
        for value in helpers.OTHERS + helpers.INTS + [
            (2, ()), (41, ()), (40, ((0, 41),)), (6, [(0, 2)]), (6, ([0, 2],)), (6, ((False, 2),)), (True, ()), (6, ((2, 0),)),
            (6, ((0, 1),)), (6, ((0, 5),)), (6, ((0, 6),)), (6, ((-1, 2),)), (6, ((0, 2), (0, 2))), (6, ((0, 3), (0, 2))),
            (6, ((0, 3), (1, 4))), (6, (), ()), (6,), (6, None), [6, ()], (3, ((0, 2),)), (6, ((0, 2), (0, 3), (0, 4), (0, 4))),
        ]:
            self.assertIs(is_loose(value), False)

    def test_cuttings_are_loose_cuttings(self):
        for sides in range(3, 8):
            self.assertEqual([loose for loose in LOOSE[sides] if len(loose[1]) == sides - 3], CUTTINGS[sides])
        for loose in LITTLE_LOOSE:
            self.assertEqual(len(loose[1]) == loose[0] - 3, is_cutting(loose))

    def test_plates(self):
        for loose in LITTLE_LOOSE:
            told = plates(loose)
            self.assertIsInstance(told, list)
            self.assertEqual(told, slow_fields(*loose))
            self.assertEqual(len(told), len(loose[1]) + 1)
            sizes = [len(plate) for plate in told]
            self.assertEqual(plate_counts(loose), tuple(sizes.count(size) for size in range(3, max(sizes) + 1)))
        for loose in GREAT_LOOSE:
            told = plates(loose)
            self.assertEqual(told, sorted(told))
            self.assertEqual(len(told), len(loose[1]) + 1)
            counts = plate_counts(loose)
            self.assertEqual(sum(counts), len(told))
            self.assertEqual(sum(many * at for at, many in enumerate(counts, start=1)), loose[0] - 2)
            self.assertGreater(counts[-1], 0)
        for cutting in SMALL + GREAT:
            self.assertEqual(plates(cutting), pieces(cutting))
            self.assertEqual(plate_counts(cutting), (cutting[0] - 2,))

    def test_without_cuts(self):
        for sides in (3, 4, 9, 40):
            self.assertEqual(plates((sides, ())), [tuple(range(sides))])
            self.assertEqual(plate_counts((sides, ())), (0,) * (sides - 3) + (1,))


class Cuts(TestCase):
    def test_in_and_out(self):
        for loose in LITTLE_LOOSE:
            sides, cuts = loose
            for cut in helpers.all_cuts(sides):
                if cut in cuts:
                    rest = (sides, tuple(other for other in cuts if other != cut))
                    self.assertEqual(cut_out(loose, cut), rest)
                    self.assertEqual(cut_in(rest, cut), loose)
                    with self.assertRaises(InvalidCut):
                        cut_in(loose, cut)
                    continue
                for call in (cut_out, slid, slid_back):
                    with self.assertRaises(InvalidCut):
                        call(loose, cut)
                if any(helpers.meet_inside(cut, other) for other in cuts):
                    with self.assertRaises(Crossing):
                        cut_in(loose, cut)
                else:
                    self.assertEqual(cut_in(loose, cut), (sides, tuple(sorted(cuts + (cut,)))))

    def test_slid(self):
        for loose in LITTLE_LOOSE + [(8, ((0, 2), (2, 5), (5, 7))), (9, ((2, 5), (5, 8)))]:
            for cut in loose[1]:
                told = slid(loose, cut)
                self.assertEqual(told, slow_slid(loose, cut, 1))
                self.assertEqual(slid_back(loose, cut), slow_slid(loose, cut, -1))
                new = (set(told[1]) - set(loose[1])).pop()
                self.assertEqual(slid_back(told, new), loose)

    def test_sliding_is_exchanging(self):
        for cutting in SMALL + GREAT:
            for cut in cutting[1][::max(1, cutting[0] // 5)]:
                self.assertEqual(slid(cutting, cut), exchanged(cutting, cut))
                self.assertEqual(slid_back(cutting, cut), exchanged(cutting, cut))

    def test_slid_as_often_as_there_are_corners(self):
        for loose in LITTLE_LOOSE + GREAT_LOOSE:
            for cut in loose[1][::max(1, len(loose[1]) // 4)]:
                rest = cut_out(loose, cut)
                corners = next(plate for plate in plates(rest) if set(cut) <= set(plate))
                here, now = loose, cut
                seen = []
                for _ in corners:
                    here = slid(here, now)
                    now = (set(here[1]) - set(rest[1])).pop()
                    seen.append(now)
                self.assertEqual((here, now), (loose, cut))
                self.assertIn(seen.count(cut), (1, 2))

    def test_what_is_no_cut(self):
        for loose in ((5, ((0, 2),)), P, TRIANGLE, (5, ())):
            for value in helpers.OTHERS + helpers.INTS + [(2, 0), (0, 1), (0, 4), (0, 9), (-1, 2), (False, 2), (0, 2, 3), [0, 2]]:
                for call in (cut_in, cut_out, slid, slid_back):
                    with self.assertRaises(InvalidCut):
                        call(loose, value)


class Two(TestCase):
    def test_pairs(self):
        for sides in range(3, 7):
            for one in LOOSE[sides]:
                for other in LOOSE[sides]:
                    mine, yours = set(one[1]), set(other[1])
                    self.assertIs(lies_in(one, other), mine <= yours)
                    self.assertEqual(common_cuts(one, other), (sides, tuple(sorted(mine & yours))))
                    both = (sides, tuple(sorted(mine | yours)))
                    self.assertEqual(joined_cuts(one, other), both if both in LOOSE[sides] else None)

    def test_great_ones(self):
        for loose in GREAT_LOOSE:
            none = (loose[0], ())
            self.assertIs(lies_in(none, loose), True)
            self.assertIs(lies_in(loose, none), loose == none)
            self.assertEqual((common_cuts(loose, none), joined_cuts(loose, none)), (none, loose))
            self.assertEqual((common_cuts(loose, loose), joined_cuts(loose, loose)), (loose, loose))
        self.assertIsNone(joined_cuts(fan(40), fan(40, 1)))
        self.assertEqual(joined_cuts((40, fan(40)[1][::2]), (40, fan(40)[1][1::2])), fan(40))

    def test_errors(self):
        for call in (lies_in, common_cuts, joined_cuts):
            with self.assertRaises(Unlike):
                call((5, ()), (6, ()))
            for wrong in (None, (5, ((0, 1),)), (41, ())):
                for one, other in ((wrong, (6, ())), ((6, ()), wrong)):
                    with self.assertRaises(InvalidLoose):
                        call(one, other)


class Full(TestCase):
    def test_full(self):
        for loose in LITTLE_LOOSE + LOOSE[7][::5]:
            wanted = [other for other in above(loose) if len(other[1]) == loose[0] - 3]
            self.assertEqual(count_full(loose), len(wanted))
            self.assertGreater(count_full(loose), 0)
            told = full_cuttings(loose)
            self.assertIsInstance(told, list)
            self.assertEqual(told, wanted)

    def test_face_counts(self):
        for loose in LITTLE_LOOSE + LOOSE[7][::3]:
            more = [len(other[1]) - len(loose[1]) for other in above(loose)]
            told = face_counts(loose)
            self.assertIsInstance(told, tuple)
            self.assertEqual(told, tuple(more.count(many) for many in range(max(more) + 1)))

    def test_signed_face_counts(self):
        for loose in LITTLE_LOOSE + GREAT_LOOSE:
            told = face_counts(loose)
            signed = sum(many if at % 2 == 0 else -many for at, many in enumerate(told))
            self.assertEqual(signed, 1 if (loose[0] - len(loose[1])) % 2 == 1 else -1)
            self.assertEqual((told[0], told[-1]), (1, count_full(loose)))
            self.assertEqual(len(told), loose[0] - 2 - len(loose[1]))

    def test_nine_sides(self):
        self.assertEqual(len(full_cuttings((9, ()))), 429)
        told = full_cuttings((9, ((2, 5), (5, 8))))
        self.assertEqual(told, sorted(told))
        self.assertEqual(len(told), count_full((9, ((2, 5), (5, 8)))))
        self.assertEqual(full_cuttings(zigzag(9)), [zigzag(9)])
        for loose in ((10, ()), zigzag(10), (40, ())):
            with self.assertRaises(TooMany) as caught:
                full_cuttings(loose)
            self.assertEqual(caught.exception.limit, 9)
        self.assertEqual(full_cuttings(TRIANGLE), [TRIANGLE])
        for call in (count_full, full_cuttings, face_counts, plates, plate_counts):
            with self.assertRaises(InvalidLoose):
                call((10, ((0, 1),)))
