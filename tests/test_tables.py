"""Point 64: tables."""

from unittest import TestCase

from eightworlds.errors import InvalidCut, InvalidWay
from eightworlds.tables import cutting_with_table, order_behind, table, table_behind, table_turned
from tests import helpers
from tests.helpers import GREAT, LITTLE, P, Q, SMALL, TRIANGLE, every_cutting, fan, halved, zigzag


def slow_table(cutting, order=None, columns=None):
    """The table of a cutting, by the words of the document, its cuts and ties perhaps in another order."""
    turns = [((a, b), (b, c), (a, c)) for a, b, c in helpers.slow_pieces(cutting)]

    def follows(other, one):
        return sum(one in turn and other == turn[(turn.index(one) + 1) % 3] for turn in turns)

    known = columns or helpers.slow_ties(cutting)
    return tuple(tuple(follows(tie, cut) - follows(cut, tie) for tie in known) for cut in order or cutting[1])


def slow_turned(rows, place, column):
    """A table turned, by the words of the document."""
    found = []
    for i, row in enumerate(rows):
        line = []
        for j, item in enumerate(row):
            u, v = row[column], rows[place][j]
            if i == place or j == column:
                line.append(-item)
            elif u > 0 and v > 0:
                line.append(item + u * v)
            elif u < 0 and v < 0:
                line.append(item - u * v)
            else:
                line.append(item)
        found.append(tuple(line))
    return tuple(found)


def walks(cutting, many):
    """Some ways from a cutting, with the cuttings, the cuts and the ties at their places behind each."""
    order, columns, way = list(cutting[1]), helpers.slow_ties(cutting), ()
    yield way, cutting, tuple(order), list(columns)
    for step in range(many):
        cut = cutting[1][(step * step + 3 * step + 1) % len(cutting[1])]
        new, cutting = helpers.slow_exchange(cutting, cut)
        way += (cut,)
        order[order.index(cut)] = new
        columns[columns.index(cut)] = new
        yield way, cutting, tuple(order), list(columns)


class Tables(TestCase):
    def test_tables(self):
        for cutting in SMALL + GREAT[:8]:
            self.assertEqual(table(cutting), slow_table(cutting))
        self.assertEqual(table(TRIANGLE), ())

    def test_turned(self):
        for cutting in LITTLE + [zigzag(9), halved(11), fan(12, 5)]:
            known = helpers.slow_ties(cutting)
            for place, cut in enumerate(cutting[1]):
                told = table_turned(cutting, cut)
                self.assertEqual(told, slow_turned(slow_table(cutting), place, known.index(cut)))

    def test_the_table_turned_is_the_table_behind_the_exchange(self):
        for cutting in LITTLE + GREAT[:6]:
            for cut in cutting[1][:5]:
                new, other = helpers.slow_exchange(cutting, cut)
                order = [new if one == cut else one for one in cutting[1]]
                columns = [new if one == cut else one for one in helpers.slow_ties(cutting)]
                self.assertEqual(table_turned(cutting, cut), slow_table(other, order, columns))

    def test_ways(self):
        for cutting in SMALL[1:] + [zigzag(10), halved(9)]:
            for way, other, order, columns in walks(cutting, 5):
                self.assertEqual(order_behind(cutting, way), order)
                self.assertEqual(table_behind(cutting, way), slow_table(other, order, columns))
        for way, other, order, columns in walks(zigzag(40), 30):
            self.assertEqual(order_behind(zigzag(40), way), order)
        self.assertEqual(table_behind(zigzag(40), way), slow_table(other, order, columns))
        self.assertEqual((table_behind(TRIANGLE, ()), order_behind(TRIANGLE, ())), ((), ()))


class ByTables(TestCase):
    def test_cutting_with_table(self):
        for cutting in SMALL + every_cutting(8)[::11]:
            told = cutting_with_table(table(cutting))
            self.assertEqual(told[0], cutting[0])
            self.assertEqual(slow_table(told), table(cutting))
        self.assertEqual(cutting_with_table(()), TRIANGLE)

    def test_other_values(self):
        for value in helpers.OTHERS + helpers.INTS:
            self.assertIsNone(cutting_with_table(value))
        for cutting in (Q, P):
            for value in helpers.spoiled(table(cutting)):
                self.assertTrue(value == () or cutting_with_table(value) is None, value)
        for value in (((0,) * 5,), ((1, 0, -1, -1, 1),) * 2, (table(P)[0], table(P)[0]), table(P)[::-1], list(table(P)), ((True, 0, -1, -1, 1),)):
            self.assertIsNone(cutting_with_table(value))
        # Of such cuttings as have more sides none is told.
        for sides in (9, 10, 40):
            self.assertIsNone(cutting_with_table(table(fan(sides))))


class WrongWays(TestCase):
    def test_wrong_ways(self):
        for call in (table_behind, order_behind):
            for way in (((1, 3),), ((0, 2), (0, 2)), ((0, 2), (1, 3)) * 15 + ((0, 2),), [(0, 2)], ((2, 0),), ((0, 2), None), None, (0, 2)):
                with self.assertRaises(InvalidWay):
                    call(Q, way)
            with self.assertRaises(InvalidWay):
                call(TRIANGLE, ((0, 2),))
            self.assertTrue(call(Q, ((0, 2), (1, 3)) * 15))

    def test_wrong_cuts(self):
        for cut in ((1, 3), (2, 0), (0, 1), [0, 2], None):
            with self.assertRaises(InvalidCut):
                table_turned(Q, cut)
