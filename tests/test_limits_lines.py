"""The limits of the document for lines, pairings, lengths, tables, sums, names and leads."""

from eightworlds import leads, lengths, listing, names, pairings, snakes, sums, tables
from tests import helpers
from tests.helpers import fan, halved, zigzag
from tests.test_sums import made_sum
from tests.test_tables import walks
from tests.timed import Timed

FAR = [(zigzag(40), (0, 20)), (fan(40), (1, 39)), (fan(40, 20), (19, 21)), (halved(40), (1, 38))]
FAR += [(listing.cutting_with(40, 10 ** 20), (3, 30))]


def many_lengths(cutting, great):
    """Lengths with great integers."""
    return tuple((great + 2 * at + 1, great + 2 * at + 2) for at in range(2 * cutting[0] - 3))


class Limits(Timed):
    def test_lines_of_forty_sides(self):
        for cutting, line in FAR:
            low = self.timed(pairings.low_pairing, cutting, line)
            self.timed(pairings.count_pairings, cutting, line)
            self.timed(pairings.level_counts, cutting, line)
            self.assertIs(self.timed(pairings.is_pairing, cutting, line, low), True)
            self.assertTrue(self.timed(pairings.flippable, cutting, line, low))
            self.timed(pairings.flipped, cutting, line, low, pairings.flippable(cutting, line, low)[0])
            self.assertEqual(self.timed(pairings.lot_of, cutting, line, low), ())
            whole = tuple(range(len(snakes.crossed(cutting, line))))
            high = self.timed(pairings.pairing_by, cutting, line, whole)
            self.assertEqual(self.timed(pairings.met_pairing, cutting, line, low, high), low)
            self.assertEqual(self.timed(pairings.joined_pairing, cutting, line, low, high), high)
            self.timed(pairings.is_pairing, cutting, line, low * 10)
            self.timed(pairings.is_pairing, cutting, line, low[:1] * 400)
            self.timed(pairings.pairing_by, cutting, line, whole * 10)
        self.assertEqual(len(snakes.crossed(zigzag(40), (0, 20))), 37)

    def test_pairings(self):
        for cutting, line in ((zigzag(15), (0, 8)), (fan(15), (1, 14)), (zigzag(40), (1, 14)), (fan(40), (1, 14))):
            if len(snakes.crossed(cutting, line)) <= 12:
                told = self.timed(pairings.pairings, cutting, line)
                self.assertEqual(len(told), pairings.count_pairings(cutting, line))

    def test_lengths(self):
        for cutting, line in FAR:
            for great in (0, 1000, 10 ** 30, 10 ** 60):
                some = many_lengths(cutting, great)
                self.timed(lengths.are_lengths, cutting, some)
                self.timed(lengths.length, cutting, some, line)
                self.timed(lengths.lengths_behind, cutting, some, cutting[1][17])
        for cutting in (zigzag(12), fan(12), halved(12)):
            for great in (0, 10 ** 119):
                self.assertEqual(len(self.timed(lengths.all_lengths, cutting, many_lengths(cutting, great))), 66)

    def test_tables(self):
        for cutting, _ in FAR:
            told = self.timed(tables.table, cutting)
            self.assertIsNone(self.timed(tables.cutting_with_table, told))
            self.timed(tables.table_turned, cutting, cutting[1][5])
            way = list(walks(cutting, 30))[-1][0]
            self.assertEqual(len(self.timed(tables.table_behind, cutting, way)), 37)
            self.assertEqual(len(self.timed(tables.order_behind, cutting, way)), 37)
        for cutting in (zigzag(8), fan(8, 7), halved(8)):
            self.assertEqual(tables.table(self.timed(tables.cutting_with_table, tables.table(cutting))), tables.table(cutting))
        for value in (((0,) * 13,) * 5, ((0,) * 400,) * 5, ((0,) * 400,) * 400, ((),) * 5):
            self.assertIsNone(self.timed(tables.cutting_with_table, value))

    def test_sums(self):
        for cutting in (helpers.TRIANGLE, helpers.Z, zigzag(12), fan(40)):
            ties = 2 * cutting[0] - 3
            for most in (60, 3, 1):
                if (2 * most + 1) ** min(ties, 9) > 1000:
                    one, other = made_sum(ties, 400, 1, most), made_sum(ties, 400, 2, most)
                    self.timed(sums.is_sum, cutting, one)
                    self.timed(sums.added, cutting, one, other)
                    # There are up to 160,000 products of up to 77 ties.
                    self.timed(sums.multiplied, cutting, one, other, within=3.0)
                    for great in (0, 1000) if most < 60 or ties < 40 else (0,):
                        self.timed(sums.value_by, cutting, one, many_lengths(cutting, great), within=3.0)

    def test_names(self):
        for cutting, line in ((zigzag(13), (0, 7)), (fan(40), (1, 12)), (zigzag(40), (0, 6))):
            if len(snakes.crossed(cutting, line)) <= 10:
                self.assertEqual(len(self.timed(names.name, cutting, line)), pairings.count_pairings(cutting, line))
        for cutting in (zigzag(12), fan(12), halved(12)):
            self.timed(names.line_named, cutting, ())
            self.timed(names.line_named, cutting, made_sum(21, 400, 1))
            for line in ((0, 6), (1, 11), (10, 11)):
                self.assertEqual(self.timed(names.line_named, cutting, names.name(cutting, line)), line)
        for cutting in (zigzag(10), fan(10), halved(10)):
            for corners in ((0, 2, 5, 7), (1, 3, 6, 9), (0, 1, 2, 9)):
                self.timed(names.crossing_sums, cutting, corners)
        for cutting in (zigzag(9), fan(9), halved(9)):
            way = list(walks(cutting, 30))[-1][0]
            self.assertEqual(len(self.timed(names.names_behind, cutting, way)), 6)
        for cutting, _ in FAR:
            self.timed(names.exchange_sum, cutting, cutting[1][20])

    def test_leads(self):
        for cutting, line in FAR:
            row, other = self.timed(leads.lead, cutting, line), self.timed(leads.bars, cutting, line)
            self.assertEqual(self.timed(leads.line_with_lead, cutting, row), line)
            self.assertEqual(self.timed(leads.line_with_bars, cutting, other), line)
            self.timed(leads.line_with_lead, cutting, (30,) * 37)
            self.timed(leads.line_with_bars, cutting, (30,) * 37)
        for cutting in (zigzag(7), fan(7), halved(7), fan(7, 4)):
            for row in ((30, -30, 30, -30), (-30,) * 4, (30,) * 4, (-30, 29, 28, -27), (0, 0, 0, 0)):
                self.timed(leads.lead_parts, cutting, row)
