"""Point 75: partings, their order and their signed numbers."""

from math import comb
from unittest import TestCase

from eightworlds.errors import InvalidParting, InvalidPoints, TooMany, Unlike
from eightworlds.overs import over
from eightworlds.partingcounts import parting_with
from eightworlds.partings import (
    is_finer, is_parting, join_of, meet_of, partings, partings_between, signed_number,
)
from tests import helpers
from tests.calls_trees import NO_PARTINGS
from tests.slow_partings import PARTINGS, SOME_PARTINGS, all_partings, all_ways_to_part, is_crossing, is_within

SINGLE = tuple((point,) for point in range(38))
WHOLE = (tuple(range(38)),)
MOST = comb(76, 38) // 39
GREAT_PARTINGS = [SINGLE, WHOLE] + [parting_with(38, MOST * at // 13) for at in range(1, 13)]


def pairs(most):
    """All pairs of partings of as many points."""
    return [(one, other) for points in range(1, most + 1) for one in PARTINGS[points] for other in PARTINGS[points]]


def least_above(points, some):
    """The parting with the most blocks than which all of some are finer, or the same."""
    above = [parting for parting in PARTINGS[points] if all(is_within(one, parting) for one in some)]
    most = max(map(len, above))
    found = [parting for parting in above if len(parting) == most]
    assert len(found) == 1
    return found[0]


class Partings(TestCase):
    def test_all(self):
        for points, wanted in PARTINGS.items():
            told = partings(points)
            self.assertIsInstance(told, list)
            self.assertEqual(told, wanted)
        for points in (7, 8):
            self.assertEqual(partings(points), all_partings(points))

    def test_is_parting(self):
        for points in range(1, 7):
            for blocks in all_ways_to_part(tuple(range(points))):
                value = tuple(sorted(blocks))
                self.assertIs(is_parting(value), not is_crossing(blocks))
                if len(value) > 1:
                    self.assertIs(is_parting(value[::-1]), False)
                    self.assertIs(is_parting(value[1:]), False)
        for value in GREAT_PARTINGS:
            self.assertIs(is_parting(value), True)
        for value in NO_PARTINGS + [SINGLE + ((38,),), (tuple(range(39)),), ((0,) * 38,), SINGLE[:-1] + ((0,),)]:
            self.assertIs(is_parting(value), False, value)
        for parting in SOME_PARTINGS[::20]:
            for value in helpers.spoiled(parting, lengths=False):
                self.assertIs(is_parting(value), False, value)

    def test_order(self):
        for one, other in pairs(5):
            self.assertIs(is_finer(one, other), is_within(one, other))
            self.assertIs(is_finer(over(other), over(one)), is_within(one, other))

    def test_meet_and_join(self):
        for at, (one, other) in enumerate(pairs(6)):
            if len(one) + len(other) > 3 and at > 2000 and at % 37:
                continue
            points = sum(map(len, one))
            common = {tuple(sorted(set(mine) & set(yours))) for mine in one for yours in other}
            self.assertEqual(meet_of(one, other), tuple(sorted(common - {()})))
            self.assertEqual(join_of(one, other), least_above(points, [one, other]))

    def test_great_ones(self):
        for one in GREAT_PARTINGS:
            self.assertEqual((meet_of(one, SINGLE), join_of(one, SINGLE)), (SINGLE, one))
            self.assertEqual((meet_of(one, WHOLE), join_of(one, WHOLE)), (one, WHOLE))
            for other in GREAT_PARTINGS:
                low, high = meet_of(one, other), join_of(one, other)
                for some in (low, high):
                    self.assertIs(is_parting(some), True)
                self.assertTrue(is_finer(low, one) and is_finer(low, other) and is_finer(one, high) and is_finer(other, high))
                self.assertEqual(is_finer(one, other), is_within(one, other))


class Between(TestCase):
    def test_between(self):
        for one, other in pairs(5):
            told = partings_between(one, other)
            self.assertIsInstance(told, list)
            wanted = [some for some in PARTINGS[sum(map(len, one))] if is_within(one, some) and is_within(some, other)]
            self.assertEqual(told, wanted)
        self.assertEqual(len(partings_between(tuple((point,) for point in range(8)), (tuple(range(8)),))), 1430)

    def test_signed_numbers(self):
        known = {}
        for points in range(1, 6):
            # Finer ones come first, those with more blocks.
            for one in PARTINGS[points]:
                for other in sorted(PARTINGS[points], key=lambda some: -len(some)):
                    if one == other:
                        known[one, other] = 1
                    elif not is_within(one, other):
                        known[one, other] = 0
                    else:
                        known[one, other] = -sum(
                            known[one, some] for some in PARTINGS[points]
                            if some != other and is_within(one, some) and is_within(some, other)
                        )
                    self.assertEqual(signed_number(one, other), known[one, other])

    def test_single_points_and_one_block(self):
        for points in range(1, 39):
            single, whole = tuple((point,) for point in range(points)), (tuple(range(points)),)
            many = comb(2 * points - 2, points - 1) // points
            self.assertEqual(signed_number(single, whole), many * (-1) ** (points - 1))
            self.assertEqual(signed_number(whole, single), 1 if points == 1 else 0)
        for one in GREAT_PARTINGS:
            self.assertEqual(signed_number(one, one), 1)
            for some in (signed_number(SINGLE, one), signed_number(one, WHOLE)):
                self.assertNotEqual(some, 0)
            # What lies above a parting is like what lies below its over.
            self.assertEqual(signed_number(one, WHOLE), signed_number(SINGLE, over(one)))


class WrongPartings(TestCase):
    def test_unlike(self):
        for call in (is_finer, meet_of, join_of, partings_between, signed_number):
            for one, other in ((((0,),), ((0, 1),)), (SINGLE, SINGLE[:-1]), (SINGLE[:9], SINGLE[:8])):
                with self.assertRaises(Unlike):
                    call(one, other)
                with self.assertRaises(Unlike):
                    call(other, one)
                with self.assertRaises(InvalidParting):
                    call(one, other + ((0,),))
                with self.assertRaises(InvalidParting):
                    call(other + ((0,),), None)
            self.assertIn(call(((0,),), ((0,),)), (True, 1, ((0,),), [((0,),)]))

    def test_too_many(self):
        for points in (9, 38):
            with self.assertRaises(TooMany) as caught:
                partings(points)
            self.assertEqual(caught.exception.limit, 8)
            with self.assertRaises(TooMany) as caught:
                partings_between(SINGLE[:points], SINGLE[:points])
            self.assertEqual(caught.exception.limit, 8)
        for points in helpers.wrong_ints(1, 38):
            with self.assertRaises(InvalidPoints):
                partings(points)
