"""Points 66 and 67: names."""

from itertools import combinations
from unittest import TestCase

from eightworlds.errors import InvalidCorners, InvalidCut, InvalidLine, InvalidWay, TooMany
from eightworlds.friezes import frieze
from eightworlds.lengths import length
from eightworlds.names import crossing_sums, exchange_sum, line_named, name, names_behind
from eightworlds.snakes import crossed, rails
from eightworlds.sums import added, is_sum, multiplied, value_by
from eightworlds.tables import order_behind, table_behind
from tests import helpers
from tests.helpers import GREAT, LITTLE, P, Q, TRIANGLE, Z, fan, halved, zigzag
from tests.slow_pairings import all_pairings
from tests.test_lengths import some_lengths
from tests.test_sums import slow_added, slow_multiplied
from tests.test_tables import walks

SOME = LITTLE + [zigzag(8), fan(9, 4), halved(9)]


def slow_name(cutting, line):
    """The name of a line, by the words of the document."""
    known = helpers.slow_ties(cutting)
    if line in known:
        return ((tuple(int(tie == line) for tie in known), 1),)
    ties, below = dict(rails(cutting, line)), crossed(cutting, line)
    found = []
    for pairing in all_pairings(list(ties)):
        above = [ties[rail] for rail in pairing]
        found.append((tuple(above.count(tie) - below.count(tie) for tie in known), 1))
    return tuple(sorted(found))


class Names(TestCase):
    def test_names(self):
        for cutting in SOME:
            told = frieze(cutting)
            for line in combinations(range(cutting[0]), 2):
                wanted = slow_name(cutting, line)
                self.assertEqual(name(cutting, line), wanted)
                self.assertIs(is_sum(cutting, wanted), True)
                self.assertEqual(len(set(powers for powers, _ in wanted)), told[line[0]][line[1]])

    def test_names_of_great_ones(self):
        for cutting in GREAT[-12:]:
            told, lengths = frieze(cutting), some_lengths(cutting, 2)
            for line in list(combinations(range(cutting[0]), 2))[::cutting[0]]:
                if len(crossed(cutting, line)) > 10:
                    with self.assertRaises(TooMany) as caught:
                        name(cutting, line)
                    self.assertEqual(caught.exception.limit, 10)
                else:
                    self.assertEqual(len(name(cutting, line)), told[line[0]][line[1]])
        self.assertEqual(value_by(fan(40), name(fan(40), (1, 12)), some_lengths(fan(40))), length(fan(40), some_lengths(fan(40)), (1, 12)))
        self.assertEqual(len(crossed(fan(40), (1, 12))), 10)
        for call in (name,):
            with self.assertRaises(TooMany):
                call(fan(40), (1, 13))
            with self.assertRaises(InvalidLine):
                call(fan(40), (13, 1))

    def test_the_value_is_the_length(self):
        for cutting in SOME:
            for seed in (1, 4):
                lengths = some_lengths(cutting, seed)
                for line in combinations(range(cutting[0]), 2):
                    self.assertEqual(value_by(cutting, name(cutting, line), lengths), length(cutting, lengths, line))

    def test_line_named(self):
        for cutting in SOME + [zigzag(12), halved(12)]:
            for line in list(combinations(range(cutting[0]), 2))[::max(1, cutting[0] - 6)]:
                self.assertEqual(line_named(cutting, name(cutting, line)), line)
        for value in helpers.OTHERS + helpers.INTS + [(), (((0,) * 7, 1),), list(name(P, (1, 4))), name(P, (1, 4))[::-1], name(P, (1, 4))[1:]]:
            self.assertIsNone(line_named(P, value))
        for value in helpers.spoiled(name(Q, (1, 3))):
            self.assertIsNone(line_named(Q, value), value)
        with self.assertRaises(TooMany) as caught:
            line_named(fan(13), None)
        self.assertEqual(caught.exception.limit, 12)


class Crossing(TestCase):
    def test_crossing_sums(self):
        for cutting in SOME + [zigzag(10), halved(10)]:
            for corners in list(combinations(range(cutting[0]), 4))[::max(1, cutting[0] ** 2 // 16 - 2)]:
                a, b, c, d = corners
                told = crossing_sums(cutting, corners)
                pairs = (((a, c), (b, d)), ((a, b), (c, d)), ((a, d), (b, c)))
                wanted = tuple(slow_multiplied(slow_name(cutting, one), slow_name(cutting, other)) for one, other in pairs)
                self.assertEqual(told, wanted)
                self.assertEqual(told[0], slow_added(told[1], told[2]))

    def test_wrong_corners(self):
        for corners in ((0, 1, 2), (0, 1, 2, 5), (-1, 0, 1, 2), (0, 2, 1, 3), (0, 0, 1, 2), [0, 1, 2, 3], (0, 1, 2, 3, 4), None, 3, (False, 1, 2, 3)):
            with self.assertRaises(InvalidCorners):
                crossing_sums(P, corners)
            with self.assertRaises(InvalidCorners):
                crossing_sums(fan(11), None)
        with self.assertRaises(InvalidCorners):
            crossing_sums(TRIANGLE, (0, 1, 2, 3))
        with self.assertRaises(TooMany) as caught:
            crossing_sums(fan(11), (0, 1, 2, 3))
        self.assertEqual(caught.exception.limit, 10)


class Behind(TestCase):
    def test_exchange_sum(self):
        for cutting in SOME:
            for cut in cutting[1]:
                new, other = helpers.slow_exchange(cutting, cut)
                told = exchange_sum(cutting, cut)
                self.assertEqual(told, slow_name(cutting, new))
                self.assertEqual(len(told), 2)
        for cutting in GREAT:
            for cut in cutting[1][::7]:
                self.assertEqual(exchange_sum(cutting, cut), name(cutting, helpers.slow_exchange(cutting, cut)[0]))

    def test_names_behind(self):
        for cutting in LITTLE + [zigzag(9), halved(9), fan(9)]:
            for way, _, order, _ in walks(cutting, 4 if cutting[1] else 0):
                told = names_behind(cutting, way)
                self.assertEqual(told, tuple(slow_name(cutting, cut) for cut in order))

    def test_they_come_step_by_step(self):
        for cutting in LITTLE[1:] + [zigzag(9)]:
            ties = helpers.slow_ties(cutting)
            steps = [way for way, *_ in walks(cutting, 4)]
            for way, longer in zip(steps, steps[1:]):
                names, rows = names_behind(cutting, way), table_behind(cutting, way)
                place = order_behind(cutting, way).index(longer[-1])
                own = {tie: slow_name(cutting, tie) for tie in ties if tie not in cutting[1]}
                own.update(zip(cutting[1], names))
                products = []
                for sign in (1, -1):
                    product = (((0,) * len(ties), 1),)
                    for tie, number in zip(ties, rows[place]):
                        for _ in range(max(0, sign * number)):
                            product = multiplied(cutting, product, own[tie])
                    products.append(product)
                new = names_behind(cutting, longer)[place]
                self.assertEqual(multiplied(cutting, names[place], new), added(cutting, *products))

    def test_wrong_ways(self):
        with self.assertRaises(InvalidWay):
            names_behind(Q, ((1, 3),))
        with self.assertRaises(InvalidWay):
            names_behind(Q, ((0, 2), (1, 3)) * 16)
        with self.assertRaises(InvalidWay):
            names_behind(fan(10), None)
        with self.assertRaises(TooMany) as caught:
            names_behind(fan(10), ())
        self.assertEqual(caught.exception.limit, 9)
        for cut in ((1, 3), (2, 0), None):
            with self.assertRaises(InvalidCut):
                exchange_sum(Q, cut)
        self.assertEqual(names_behind(TRIANGLE, ()), ())
        self.assertEqual(len(names_behind(Z, ((0, 2), (1, 5)))), 3)
