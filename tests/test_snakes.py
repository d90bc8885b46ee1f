"""Point 59: lines and snakes."""

from itertools import combinations
from unittest import TestCase

from eightworlds.errors import InvalidLine
from eightworlds.friezes import frieze
from eightworlds.snakes import crossed, rails, shape_of, snake
from tests import helpers
from tests.helpers import GREAT, LITTLE, P, SMALL, TRIANGLE
from tests.slow_pairings import all_pairings


def some_lines(cutting):
    """All lines of a cutting, or some if there are many."""
    lines = list(combinations(range(cutting[0]), 2))
    return lines if len(lines) < 100 else lines[::29] + [(0, cutting[0] // 2), (0, cutting[0] - 1)]


def walk_along(cutting, line):
    """The crossed cuts of a line and the corners ahead and behind each of them, by walking from piece to piece."""
    first, last = line
    known = helpers.slow_pieces(cutting)
    if line in helpers.slow_ties(cutting):
        return []
    # The line leaves the piece at its first corner whose other corners lie on both sides of it.
    piece = next(
        some for some in known if first in some
        and all((first < corner < last) != (first < other < last)
                for corner, other in [[corner for corner in some if corner != first]])
    )
    corner, found = first, []
    cut = tuple(end for end in piece if end != first)
    while True:
        other = next(some for some in known if set(cut) <= set(some) and corner not in some)
        ahead = next(end for end in other if end not in cut)
        found.append((cut, corner, ahead))
        if ahead == last:
            return found
        inside = first < ahead < last
        gone = next(end for end in cut if (first < end < last) == inside)
        corner = gone
        cut = tuple(sorted([ahead] + [end for end in cut if end != gone]))


class Lines(TestCase):
    def test_crossed(self):
        for cutting in SMALL + GREAT:
            for line in some_lines(cutting):
                told = crossed(cutting, line)
                self.assertIsInstance(told, list)
                self.assertEqual(told, [cut for cut, _, _ in walk_along(cutting, line)])
                self.assertEqual(sorted(told), [cut for cut in cutting[1] if helpers.meet_inside(cut, line)])

    def test_snakes(self):
        for cutting in SMALL + GREAT:
            for line in some_lines(cutting):
                met, tiles = walk_along(cutting, line), snake(cutting, line)
                self.assertIsInstance(tiles, tuple)
                self.assertEqual(len(tiles), len(met))
                for (cut, corner, ahead), (_, corners) in zip(met, tiles):
                    self.assertEqual((corners[0], corners[2]), (corner, ahead))
                    self.assertEqual(tuple(sorted((corners[1], corners[3]))), cut)
                if tiles:
                    self.assertEqual(tiles[0][0], (0, 0))
                    first, cut = line[0], met[0][0]
                    backward = [(first - step) % cutting[0] for step in range(1, cutting[0])]
                    self.assertEqual(tiles[0][1][1], next(end for end in backward if end in cut))
                for at, ((across, up), corners) in enumerate(tiles[:-1]):
                    common = set(met[at][0]) & set(met[at + 1][0])
                    self.assertEqual(len(common), 1)
                    right = corners[1] in common
                    self.assertEqual(tiles[at + 1][0], (across + 1, up) if right else (across, up + 1))
                    behind = tiles[at + 1][1]
                    touching = ((3, 0), (2, 1)) if right else ((1, 0), (2, 3))
                    for one, other in touching:
                        self.assertEqual(corners[one], behind[other])

    def test_shapes(self):
        for cutting in SMALL + GREAT:
            for line in some_lines(cutting):
                spots = [spot for spot, _ in snake(cutting, line)]
                words = tuple("right" if one[1] == other[1] else "up" for one, other in zip(spots, spots[1:]))
                self.assertEqual(shape_of(cutting, line), words if spots else None)

    def test_ties(self):
        for cutting in SMALL:
            for tie in helpers.slow_ties(cutting):
                self.assertEqual(crossed(cutting, tie), [])
                self.assertEqual(snake(cutting, tie), ())
                self.assertEqual(rails(cutting, tie), [])
                self.assertIsNone(shape_of(cutting, tie))


class Rails(TestCase):
    def test_rails_and_ties(self):
        for cutting in SMALL + GREAT:
            known = set(helpers.slow_ties(cutting))
            for line in some_lines(cutting):
                at = {}
                wanted = set()
                for (across, up), corners in snake(cutting, line):
                    points = [(across, up), (across, up + 1), (across + 1, up + 1), (across + 1, up)]
                    for point, corner in zip(points, corners):
                        self.assertEqual(at.setdefault(point, corner), corner)
                    wanted |= {tuple(sorted((points[one], points[one - 1]))) for one in range(4)}
                told = rails(cutting, line)
                self.assertIsInstance(told, list)
                self.assertEqual(told, [
                    (rail, tuple(sorted((at[rail[0]], at[rail[1]])))) for rail in sorted(wanted)
                ])
                self.assertTrue(all(tie in known for _, tie in told))

    def test_as_many_pairings_as_the_number_of_the_frieze(self):
        for cutting in LITTLE + [helpers.zigzag(9), helpers.fan(9, 2), helpers.halved(11), helpers.zigzag(12)]:
            told = frieze(cutting)
            for line in combinations(range(cutting[0]), 2):
                many = len(all_pairings([rail for rail, _ in rails(cutting, line)]))
                self.assertEqual(many, told[line[0]][line[1]])


class WrongLines(TestCase):
    def test_wrong_lines(self):
        wrong = helpers.OTHERS + helpers.INTS + list(helpers.spoiled((1, 4))) + [
            (4, 1), (1, 1), (0, 5), (-1, 3), (5, 6), (False, 3), (0, True), [0, 2], (0, 2, 3), (0,),
        ]
        for call in (crossed, snake, shape_of, rails):
            for line in wrong:
                with self.assertRaises(InvalidLine):
                    call(P, line)
            with self.assertRaises(InvalidLine):
                call(TRIANGLE, (0, 3))
