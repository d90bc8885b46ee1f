"""Points 60 and 61: pairings, flips, lots and levels."""

from itertools import combinations
from unittest import TestCase

from eightworlds.errors import InvalidLine, InvalidLot, InvalidPairing, InvalidTile, TooMany
from eightworlds.friezes import frieze
from eightworlds.pairings import (
    count_pairings, flippable, flipped, is_pairing, joined_pairing, level_counts, lot_of, low_pairing, met_pairing,
    pairing_by, pairings,
)
from eightworlds.snakes import rails, snake
from tests import helpers
from tests.helpers import LITTLE, TRIANGLE, Z, fan, halved, zigzag
from tests.slow_pairings import all_pairings, flips_of, lots_of, tile_rails


def all_lines(cutting):
    return list(combinations(range(cutting[0]), 2))


SOME = [(cutting, line) for cutting in LITTLE + [zigzag(7), fan(8, 3), halved(8)] for line in all_lines(cutting)]
SOME += [(zigzag(9), (0, 5)), (fan(9), (1, 8)), (halved(10), (1, 6)), (zigzag(10), (0, 5))]


class Pairings(TestCase):
    def test_all(self):
        for cutting, line in SOME:
            wanted = all_pairings([rail for rail, _ in rails(cutting, line)])
            told = pairings(cutting, line)
            self.assertIsInstance(told, list)
            self.assertEqual(told, wanted)
            self.assertEqual(count_pairings(cutting, line), len(wanted))
            self.assertEqual(frieze(cutting)[line[0]][line[1]], len(wanted))
            for pairing in wanted:
                self.assertIs(is_pairing(cutting, line, pairing), True)

    def test_what_is_none(self):
        for cutting, line in SOME[::7]:
            known = [rail for rail, _ in rails(cutting, line)]
            wanted = set(pairings(cutting, line))
            for many in (0, 1, 2, 3):
                for some in combinations(known, many):
                    self.assertIs(is_pairing(cutting, line, some), some in wanted)
            for pairing in wanted:
                for value in helpers.spoiled(pairing):
                    self.assertIs(is_pairing(cutting, line, value), False)
                if len(pairing) > 1:
                    self.assertIs(is_pairing(cutting, line, pairing[::-1]), False)

    def test_the_low_one(self):
        for cutting, line in SOME:
            told = low_pairing(cutting, line)
            spots = [spot for spot, _ in snake(cutting, line)]
            self.assertEqual([told], [pairing for pairing, lot in lots_of(spots).items() if lot == ()])

    def test_ties(self):
        for cutting in LITTLE:
            for tie in helpers.slow_ties(cutting):
                self.assertEqual(pairings(cutting, tie), [()])
                self.assertEqual(count_pairings(cutting, tie), 1)
                self.assertEqual(low_pairing(cutting, tie), ())
                self.assertIs(is_pairing(cutting, tie, ()), True)
                self.assertIs(is_pairing(cutting, tie, []), False)
                self.assertIs(is_pairing(cutting, tie, (((0, 0), (0, 1)),)), False)
                self.assertEqual(flippable(cutting, tie, ()), [])
                self.assertEqual(lot_of(cutting, tie, ()), ())
                self.assertEqual(pairing_by(cutting, tie, ()), ())
                self.assertEqual(met_pairing(cutting, tie, (), ()), ())
                self.assertEqual(joined_pairing(cutting, tie, (), ()), ())
                self.assertEqual(level_counts(cutting, tie), (1,))
                with self.assertRaises(InvalidTile):
                    flipped(cutting, tie, (), 0)
                with self.assertRaises(InvalidLot):
                    pairing_by(cutting, tie, (0,))

    def test_as_many_as_the_number_of_the_frieze(self):
        for cutting in [zigzag(40), fan(40, 7), halved(40), zigzag(23)]:
            told = frieze(cutting)
            for first, last in all_lines(cutting)[::23]:
                self.assertEqual(count_pairings(cutting, (first, last)), told[first][last])


class Flips(TestCase):
    def test_flips(self):
        for cutting, line in SOME:
            tiles = [tile_rails(spot) for spot, _ in snake(cutting, line)]
            for pairing in pairings(cutting, line):
                wanted = flips_of(pairing, tiles)
                self.assertEqual(flippable(cutting, line, pairing), [at for at, _ in wanted])
                for at, other in wanted:
                    self.assertEqual(flipped(cutting, line, pairing, at), other)
                    self.assertEqual(flipped(cutting, line, other, at), pairing)
                for at in range(-1, len(tiles) + 1):
                    if at not in [place for place, _ in wanted]:
                        with self.assertRaises(InvalidTile):
                            flipped(cutting, line, pairing, at)

    def test_lots(self):
        for cutting, line in SOME:
            tiles = snake(cutting, line)
            lots = lots_of([spot for spot, _ in tiles])
            self.assertEqual(sorted(lots), pairings(cutting, line))
            for pairing, lot in lots.items():
                self.assertEqual(lot_of(cutting, line, pairing), lot)
                self.assertEqual(pairing_by(cutting, line, lot), pairing)
            levels = [len(lot) for lot in lots.values()]
            self.assertEqual(level_counts(cutting, line), tuple(levels.count(level) for level in range(len(tiles) + 1)))
            known = set(lots.values())
            if len(tiles) < 6:
                for many in range(len(tiles) + 1):
                    for lot in combinations(range(len(tiles)), many):
                        if lot not in known:
                            with self.assertRaises(InvalidLot):
                                pairing_by(cutting, line, lot)

    def test_met_and_joined(self):
        for cutting, line in SOME[::3]:
            lots = lots_of([spot for spot, _ in snake(cutting, line)])
            by_lot = {lot: pairing for pairing, lot in lots.items()}
            for mine, one in list(lots.items())[:9]:
                for yours, other in list(lots.items())[-9:]:
                    common, both = tuple(sorted(set(one) & set(other))), tuple(sorted(set(one) | set(other)))
                    self.assertEqual(met_pairing(cutting, line, mine, yours), by_lot[common])
                    self.assertEqual(joined_pairing(cutting, line, mine, yours), by_lot[both])

    def test_great_ones(self):
        for cutting, line in ((zigzag(40), (0, 20)), (fan(40), (1, 39)), (halved(40), (1, 38)), (fan(40, 20), (19, 21))):
            low, tiles = low_pairing(cutting, line), snake(cutting, line)
            self.assertEqual(lot_of(cutting, line, low), ())
            pairing, many = low, 0
            while True:
                free = [at for at in flippable(cutting, line, pairing) if at not in lot_of(cutting, line, pairing)]
                if not free:
                    break
                pairing = flipped(cutting, line, pairing, free[many % len(free)])
                many += 1
                self.assertEqual(len(lot_of(cutting, line, pairing)), many)
                self.assertEqual(pairing_by(cutting, line, lot_of(cutting, line, pairing)), pairing)
                self.assertEqual(met_pairing(cutting, line, low, pairing), low)
                self.assertEqual(joined_pairing(cutting, line, pairing, low), pairing)
            self.assertEqual(many, len(tiles))
            levels = level_counts(cutting, line)
            self.assertEqual((len(levels), levels[0], levels[-1]), (len(tiles) + 1, 1, 1))
            self.assertEqual(sum(levels), count_pairings(cutting, line))


class WrongPairings(TestCase):
    def test_too_many(self):
        self.assertEqual(len(pairings(zigzag(15), (0, 8))), count_pairings(zigzag(15), (0, 8)))
        self.assertEqual(len(snake(zigzag(15), (0, 8))), 12)
        for sides in (16, 40):
            with self.assertRaises(TooMany) as caught:
                pairings(zigzag(sides), (0, sides // 2))
            self.assertEqual(caught.exception.limit, 12)
        with self.assertRaises(InvalidLine):
            pairings(zigzag(16), (8, 0))
        self.assertEqual(pairings(fan(40), (0, 20)), [()])

    def test_pairings_of_other_lines(self):
        for call in (flippable, lot_of):
            with self.assertRaises(InvalidPairing):
                call(Z, (1, 4), low_pairing(Z, (0, 4)))
            with self.assertRaises(InvalidPairing):
                call(Z, (0, 4), ())
            with self.assertRaises(InvalidLine):
                call(TRIANGLE, (0, 3), ())
        low = low_pairing(Z, (1, 4))
        for mine, yours in ((low, ()), ((), low), (low, low_pairing(Z, (0, 4)))):
            for call in (met_pairing, joined_pairing):
                with self.assertRaises(InvalidPairing):
                    call(Z, (1, 4), mine, yours)
