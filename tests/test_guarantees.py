"""Point 3: the guarantees that lead from one module to another."""

from itertools import combinations, product
from unittest import TestCase

from eightworlds.choices import count_choices
from eightworlds.friezes import frieze
from eightworlds.gears import comes_round
from eightworlds.polygons import counts_at, ears, pieces
from eightworlds.roads import road_cutting, road_of, road_with
from eightworlds.rows import row_bar, row_cutting, row_struck
from eightworlds.shapes import cutting_by, levels_by, tally
from eightworlds.snakes import crossed, rails, shape_of, snake
from eightworlds.turning import turned
from tests import helpers
from tests.helpers import GREAT, LITTLE, SMALL


def ends_of_striking(row):
    """All rows at which striking, in whatever order, can stop."""
    if len(row) == 3 or 1 not in row:
        return {row}
    return {end for place, item in enumerate(row) if item == 1 for end in ends_of_striking(row_struck(row, place))}


def has_bar(row):
    """Whether some bar of a row is found by striking in whatever order."""
    if min(row) < 1 or 1 not in row or (len(row) == 3 and row != (1, 1, 1)):
        return True
    return len(row) > 3 and any(has_bar(row_struck(row, place)) for place, item in enumerate(row) if item == 1)


class Guarantees(TestCase):
    def test_pieces(self):
        for cutting in SMALL + GREAT:
            told = pieces(cutting)
            self.assertEqual(len(told), cutting[0] - 2)
            for cut in cutting[1]:
                self.assertEqual(len([piece for piece in told if set(cut) <= set(piece)]), 2)

    def test_striking(self):
        for sides in (3, 4, 5, 6):
            for row in product(range(0, 5), repeat=sides):
                told = row_cutting(row)
                self.assertEqual(has_bar(row), told is None)
                self.assertEqual(has_bar(row), row_bar(row) is not None)
                if told is not None:
                    self.assertEqual(ends_of_striking(row), {(1, 1, 1)})
        for cutting in SMALL:
            self.assertFalse(has_bar(counts_at(cutting)))

    def test_counts_come_round_and_turn_along(self):
        for cutting in SMALL + GREAT:
            row = counts_at(cutting)
            self.assertEqual(comes_round(row), -1)
            self.assertEqual(sum(row), 3 * (cutting[0] - 2))
            for steps in (1, 2, -1):
                self.assertEqual(counts_at(turned(cutting, steps)), tuple(row[(at - steps) % len(row)] for at in range(len(row))))

    def test_a_middle_on_the_road_is_an_ear(self):
        for cutting in SMALL:
            road = road_of(cutting)
            for place in range(len(road) - 1):
                self.assertIn(place + 1, ears(road_cutting(road_with(road, place))))

    def test_lines_and_friezes(self):
        for cutting in SMALL + GREAT:
            told = frieze(cutting)
            lines = list(combinations(range(cutting[0]), 2))
            for first, last in lines if len(lines) < 70 else lines[::17]:
                shape = shape_of(cutting, (first, last))
                self.assertEqual(told[first][last], 1 if shape is None else tally(shape)[0])
                self.assertEqual(told[first][last], count_choices(cutting, first, last))
                if shape is not None:
                    levels = levels_by(shape)
                    self.assertEqual(sum(levels), told[first][last])
                    self.assertEqual(len(levels), len(crossed(cutting, (first, last))) + 1)
                    self.assertEqual((levels[0], levels[-1]), (1, 1))

    def test_rails_lie_on_ties(self):
        for cutting in LITTLE + GREAT:
            known = set(helpers.slow_ties(cutting))
            for line in ((0, cutting[0] // 2), (1, cutting[0] - 1), (0, cutting[0] - 1)):
                told = rails(cutting, line)
                self.assertTrue(all(tie in known for _, tie in told))
                tiles = len(snake(cutting, line))
                self.assertEqual(len(told), 3 * tiles + 1 if tiles else 0)

    def test_cuttings_by_shapes_have_the_tally_in_their_frieze(self):
        for many in range(7):
            for shape in product(("right", "up"), repeat=many):
                cutting, (first, last) = cutting_by(shape)
                self.assertEqual(frieze(cutting)[first][last], tally(shape)[0])
