"""Point 84: ways with as few exchanges as can be."""

from itertools import product
from unittest import TestCase

from eightworlds.errors import InvalidCutting, TooMany, Unlike
from eightworlds.exchanges import comes_for, exchanged
from eightworlds.fewest import count_least_ways, fewest_exchanges, is_least_way, least_way, on_least_ways
from eightworlds.listing import cuttings
from eightworlds.shared import shared_cuts, shared_fields, within_field
from eightworlds.turning import mirrored, turned
from eightworlds.ways import far_from_fan, is_way_to, way_by_fan
from tests import helpers
from tests.helpers import H, P, Q, TRIANGLE, fan, halved, zigzag
from tests.slow_ways import CUTTINGS, PAIRS, all_least_ways, far_between, walk

CALLS = (fewest_exchanges, least_way, count_least_ways, on_least_ways)


def between(sides, ends, inner):
    """A cutting with the cuts of one within a field, and with those of a fan outside, if need be."""
    cuts = {(ends[low], ends[high]) for low, high in inner[1]} | set(zip(ends, ends[1:])) | {(ends[0], ends[-1])}
    for low, high in list(zip(ends, ends[1:])):
        cuts |= {(low, corner) for corner in range(low + 2, high)}
    cuts |= {(0, corner) for corner in range(ends[-1] + 1, sides - 1)}
    known = set(helpers.all_cuts(sides))
    return (sides, tuple(sorted(cuts & known)))


def joined_fields(sides, inner):
    """A cutting that has a cutting of eight sides in each field along a polygon, one next to the other one."""
    cuts = set()
    for at in range((sides - 2) // 6):
        ends = (0,) + tuple(range(1 + 6 * at, 8 + 6 * at))
        cuts |= {(ends[low], ends[high]) for low, high in inner[at % len(inner)][1]} | {(0, ends[1]), (0, ends[-1])}
    cuts |= {(0, corner) for corner in range(1 + (sides - 2) // 6 * 6, sides - 1)}
    return (sides, tuple(sorted(cuts & set(helpers.all_cuts(sides)))))


EIGHT = [cutting for cutting in cuttings(8) if (0, 7) not in cutting[1]]
MANY = (joined_fields(40, [fan(8, 3), zigzag(8)]), joined_fields(40, [fan(8, 4), turned(zigzag(8), 1)]))


class Fewest(TestCase):
    def test_all_pairs(self):
        for one, other in PAIRS:
            least = far_between(one, other)
            ways = all_least_ways(one, other)
            self.assertEqual(fewest_exchanges(one, other), least)
            told = least_way(one, other)
            self.assertIsInstance(told, tuple)
            self.assertIn(told, ways)
            self.assertEqual(count_least_ways(one, other), len(ways))
            met = {cutting for way in ways for cutting in walk(one, way)}
            self.assertEqual(on_least_ways(one, other), len(met))

    def test_seven_sides(self):
        some = CUTTINGS[7]
        for one, other in list(product(some, some))[::11]:
            self.assertEqual(fewest_exchanges(one, other), far_between(one, other))
            told = least_way(one, other)
            self.assertEqual((walk(one, told)[-1], len(told)), (other, far_between(one, other)))
        for one, other in list(product(some, some))[::43]:
            ways = all_least_ways(one, other)
            self.assertEqual(count_least_ways(one, other), len(ways))
            self.assertEqual(on_least_ways(one, other), len({cutting for way in ways for cutting in walk(one, way)}))

    def test_is_least_way(self):
        for one, other in PAIRS[::3]:
            ways = set(all_least_ways(one, other))
            for way in ways:
                self.assertIs(is_least_way(one, other, way), True)
                self.assertIs(is_least_way(one, other, list(way)), False)
                if way:
                    self.assertIs(is_least_way(one, other, way[:-1]), False)
                    self.assertIs(is_least_way(one, other, way[1:]), False)
                    back = comes_for(walk(one, way)[-2], way[-1])
                    self.assertIs(is_least_way(one, other, way + (back, way[-1])), False)
            if one[0] < 6:
                known = helpers.all_cuts(one[0])
                for way in product(known, repeat=far_between(one, other)):
                    self.assertIs(is_least_way(one, other, way), way in ways)
        for value in helpers.OTHERS + helpers.INTS:
            self.assertIs(is_least_way(H, helpers.Z, value), False)
        self.assertIs(is_least_way(Q, Q, ()), True)
        self.assertIs(is_least_way(TRIANGLE, TRIANGLE, ()), True)

    def test_a_cutting_and_itself(self):
        for cutting in helpers.SMALL + [fan(40), zigzag(40), halved(40)]:
            self.assertEqual([call(cutting, cutting) for call in CALLS], [0, (), 1, 1])


class Guarantees(TestCase):
    def test_no_least_way_takes_a_shared_cut(self):
        for one, other in PAIRS:
            shared = set(shared_cuts(one, other))
            for way in all_least_ways(one, other):
                self.assertFalse(shared & set(way))
                self.assertTrue(all(shared <= set(cutting[1]) for cutting in walk(one, way)))

    def test_as_many_as_in_all_fields_together(self):
        for one, other in PAIRS:
            fields = shared_fields(one, other)
            inner = [(within_field(one, field), within_field(other, field)) for field in fields]
            self.assertEqual(far_between(one, other), sum(far_between(mine, yours) for mine, yours in inner))
            self.assertEqual(fewest_exchanges(one, other), sum(fewest_exchanges(mine, yours) for mine, yours in inner))

    def test_an_exchange_that_brings_a_cut_of_the_other_one(self):
        for one, other in PAIRS:
            for cut in one[1]:
                if cut not in other[1] and comes_for(one, cut) in other[1]:
                    behind = exchanged(one, cut)
                    self.assertEqual(fewest_exchanges(behind, other) + 1, fewest_exchanges(one, other))

    def test_there_and_back_turned_and_mirrored(self):
        for one, other in PAIRS:
            least = fewest_exchanges(one, other)
            self.assertEqual(fewest_exchanges(other, one), least)
            self.assertEqual(count_least_ways(other, one), count_least_ways(one, other))
            self.assertEqual(on_least_ways(other, one), on_least_ways(one, other))
            self.assertEqual(fewest_exchanges(mirrored(one), mirrored(other)), least)
            self.assertEqual(fewest_exchanges(turned(one, 1), turned(other, 1)), least)
            self.assertGreaterEqual(least, len(set(one[1]) - set(other[1])))
            for corner in range(one[0]):
                self.assertLessEqual(least, far_from_fan(one, corner) + far_from_fan(other, corner))

    def test_by_way_of_a_third_one(self):
        for sides in range(3, 7):
            some = CUTTINGS[sides]
            far = {(one, other): fewest_exchanges(one, other) for one in some for other in some}
            for one, other, third in product(some, some, some):
                self.assertLessEqual(far[one, other], far[one, third] + far[third, other])

    def test_to_a_fan(self):
        for sides, some in CUTTINGS.items():
            for corner in range(sides):
                for cutting in some[::2]:
                    self.assertEqual(fewest_exchanges(cutting, fan(sides, corner)), far_from_fan(cutting, corner))

    def test_greater_ones(self):
        some = EIGHT[::17] + [fan(8), zigzag(8), halved(8)]
        for one in some:
            for other in some:
                least = fewest_exchanges(one, other)
                told = least_way(one, other)
                self.assertEqual(len(told), least)
                self.assertIs(is_least_way(one, other, told), True)
                self.assertEqual(fewest_exchanges(other, one), least)
                self.assertLessEqual(least, min(len(way_by_fan(one, other, corner)) for corner in range(8)))
                self.assertFalse(set(shared_cuts(one, other)) & set(told))


class Fields(TestCase):
    def test_several_fields_of_eight_sides(self):
        one, other = MANY
        fields = shared_fields(one, other)
        self.assertEqual([len(field) for field in fields].count(8), 6)
        inner = [(within_field(one, field), within_field(other, field)) for field in fields]
        least = [fewest_exchanges(mine, yours) for mine, yours in inner]
        self.assertEqual(fewest_exchanges(one, other), sum(least))
        told = least_way(one, other)
        self.assertIs(is_way_to(one, other, told), True)
        self.assertEqual(len(told), sum(least))
        self.assertIs(is_least_way(one, other, told), True)
        number, ahead = 1, 0
        for (mine, yours), many in zip(inner, least):
            # So many places among all are for the exchanges of this field.
            for step in range(many):
                number = number * (ahead + step + 1) // (step + 1)
            ahead += many
            number *= count_least_ways(mine, yours)
        self.assertEqual(count_least_ways(one, other), number)
        met = 1
        for mine, yours in inner:
            met *= on_least_ways(mine, yours)
        self.assertEqual(on_least_ways(one, other), met)

    def test_too_many(self):
        nine = [between(40, (0, 5, 6, 7, 8, 9, 10, 11, 20), fan(9, corner)) for corner in (0, 1)]
        self.assertEqual(max(len(field) for field in shared_fields(*nine)), 9)
        eight = [between(40, (0, 5, 6, 7, 8, 9, 10, 20), fan(8, corner)) for corner in (0, 1)]
        self.assertEqual(max(len(field) for field in shared_fields(*eight)), 8)
        self.assertEqual(fewest_exchanges(*eight), far_from_fan(fan(8), 1))
        for one, other in (nine, (fan(9), fan(9, 1)), (zigzag(40), fan(40))):
            for call in CALLS + (lambda one, other: is_least_way(one, other, None), lambda one, other: is_least_way(one, other, ())):
                with self.assertRaises(TooMany) as caught:
                    call(one, other)
                self.assertEqual(caught.exception.limit, 8)

    def test_order_of_errors(self):
        for call in CALLS + (lambda one, other: is_least_way(one, other, None),):
            with self.assertRaises(Unlike):
                call(fan(9), fan(40))
            with self.assertRaises(InvalidCutting):
                call(fan(40), (40, ()))
            with self.assertRaises(InvalidCutting):
                call(None, P)
