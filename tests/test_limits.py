"""The limits of the document: each call answers within about a second."""

from eightworlds import (
    chains, choices, exchanges, friezes, gears, listing, measures, polygons, roads, rows, shapes, snakes, turning, valued,
)
from tests import helpers
from tests.every_call import EVERY_CALL
from tests.timed import Timed

FORTY = [helpers.fan(40), helpers.fan(40, 39), helpers.zigzag(40), helpers.halved(40), listing.cutting_with(40, 10 ** 20)]


class Limits(Timed):
    def test_cuttings_of_forty_sides(self):
        for cutting in FORTY:
            for call in (
                polygons.is_cutting, polygons.pieces, polygons.ties, polygons.counts_at, polygons.ears, exchanges.exchanges,
                exchanges.fan_way, turning.mirrored, turning.plain, turning.own_turns, listing.number_of, friezes.frieze,
                friezes.frieze_determinant, roads.road_of,
            ):
                self.timed(call, cutting)
            self.timed(turning.alike, cutting, turning.turned(cutting, 999))
            for cut in cutting[1][::9]:
                self.timed(exchanges.exchanged, cutting, cut)
            told = friezes.frieze(cutting)
            self.assertIs(self.timed(friezes.is_frieze, told), True)
            self.assertEqual(self.timed(friezes.frieze_cutting, told), cutting)
            self.assertIs(self.timed(roads.is_road, roads.road_of(cutting)), True)
            self.assertEqual(self.timed(roads.road_cutting, roads.road_of(cutting)), cutting)
            self.assertIs(self.timed(gears.is_threefold, *cutting), True)
            self.timed(gears.threefold_counts, *cutting)
            for first, last in ((0, 39), (1, 38), (5, 25), (19, 20)):
                self.assertEqual(self.timed(choices.count_choices, cutting, first, last), told[first][last])
                self.timed(choices.is_choice, cutting, first, last, ((0, 1, 2),) * (last - first - 1))
                for call in (snakes.crossed, snakes.snake, snakes.shape_of, snakes.rails):
                    self.timed(call, cutting, (first, last))

    def test_rows_of_forty_items(self):
        some = [polygons.counts_at(cutting) for cutting in FORTY]
        some += [(1,) * 40, (2,) * 40, (1, 2) * 20, (1, 3) * 20, (99,) * 40, (-99,) * 40, (1, 99) * 20, (3, 1, 2, 2, 1) * 8]
        for row in some:
            for call in (rows.are_counts, rows.row_cutting, rows.row_bar, gears.gear_product, gears.comes_round):
                self.timed(call, row)
            self.timed(rows.is_row_bar, row, rows.row_bar(row) or ())
            self.timed(rows.is_row_bar, row, (0,) * 400)
            self.timed(friezes.row_number, row, 39, 60)

    def test_counts(self):
        for call in (listing.count_cuttings, listing.count_plain):
            self.timed(call, 200)
        for prime in (2, 3, 5, 7, 499, 991, 997):
            for sides in (10 ** 30, 10 ** 30 - 1, 3):
                self.timed(listing.count_rest, sides, prime)
        most = listing.count_cuttings(40)
        for number in (0, most // 2, most - 1):
            self.timed(listing.cutting_with, 40, number)

    def test_lists(self):
        self.assertEqual(len(self.timed(listing.cuttings, 9)), 429)
        self.assertEqual(len(self.timed(friezes.friezes_with, 8, ())), 132)
        self.assertEqual(len(self.timed(friezes.friezes_with, 8, ((0, 7, 1),) * 6)), 132)
        self.assertEqual(len(self.timed(gears.threefolds, 9)), 595)
        for row in ((1,) * 9, (2,) * 9, (99,) * 9, (7,) + (1,) + (2,) * 6 + (1,)):
            self.timed(gears.threefold_of, row)
        for sign in (1, -1):
            self.assertTrue(self.timed(gears.rows_round, 8, sign))
        for cutting in listing.cuttings(9)[::40] + [helpers.zigzag(9)]:
            for first, last in ((0, 8), (1, 7), (2, 8), (0, 4)):
                self.timed(choices.piece_choices, cutting, first, last)

    def test_values(self):
        for cutting in (helpers.fan(12), helpers.zigzag(12), helpers.halved(12)):
            for values in ((1000,) * 9, (1,) * 9, tuple(range(991, 1000)), (997, 1) * 4 + (991,)):
                told = self.timed(valued.frieze_by, cutting, values)
                self.assertIs(self.timed(valued.is_frieze_by, cutting, values, told), True)
                self.timed(valued.is_whole_by, cutting, values)
                self.timed(valued.fraction_by, cutting, values, 0, 6)

    def test_fractions(self):
        million, great = 10 ** 6, 10 ** 30
        for fraction in ((million, 1), (1, million), (million, 999999), (999999, million), (832040, 514229), (38, 1)):
            self.timed(roads.road_to, fraction)
        for fraction in ((great, 1), (great, great - 1), (great, 3 ** 60), (great - 1, great - 2), (great, great // 2 - 1), (201, 200)):
            for call in (chains.minus_chain, chains.plus_chain, chains.chain_partner, chains.two_ones):
                self.timed(call, fraction)
        for fraction in ((200, 199), (200, 1), (200, 101), (199, 2)):
            self.timed(measures.measured, fraction)
        for chain in ((20,) * 12, (2,) * 12, (2, 20) * 6):
            self.timed(measures.measured_by, chain)

    def test_shapes(self):
        for shape in (("up",) * 60, ("right",) * 60, ("right", "up") * 30, ("up", "up", "right") * 20):
            self.timed(shapes.tally, shape)
            self.timed(shapes.levels_by, shape)
            self.timed(shapes.cutting_by, shape[:36])
            self.assertEqual(self.timed(shapes.shape_by, *shapes.tally(shape)), shape)
        self.timed(shapes.shape_by, 10 ** 30, 1)
        self.timed(shapes.shape_by, 10 ** 30, 10 ** 30 - 1)

    def test_deep_and_wide_values(self):
        def wide(kind, leaf, depth, many):
            for _ in range(depth):
                leaf = kind([leaf] * many)
            return leaf

        some = [helpers.nested(29, leaf, kind) for leaf in (0, (), "x", None) for kind in (tuple, list)]
        some += [wide(kind, 1, 29, 400) for kind in (tuple, list)] + [(5, some[0]), (5, (some[0],) * 400), (some[0],) * 400]
        some += [(0,) * 400, ((0, 2),) * 400, ((0, 2),) * 37, (40, ((0, 2),) * 37), (40, ((0, 2),) * 400)]
        for call, arguments, _, *_ in EVERY_CALL:
            for at in range(len(arguments)):
                for value in some:
                    self.timed(call, *arguments[:at], value, *arguments[at + 1:])
