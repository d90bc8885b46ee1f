"""Point 68: leads and bars."""

from itertools import combinations, product
from unittest import TestCase

from eightworlds.errors import InvalidLine, InvalidRow, TooMany
from eightworlds.leads import bars, lead, lead_parts, line_with_bars, line_with_lead
from eightworlds.pairings import low_pairing
from eightworlds.snakes import crossed, rails
from tests import helpers
from tests.helpers import GREAT, LITTLE, P, SMALL, TRIANGLE, all_cuts, fan, halved, zigzag


def slow_lead(cutting, line):
    """The lead of a line, by the words of the document."""
    if line in cutting[1]:
        return tuple(int(cut == line) for cut in cutting[1])
    ties, below = dict(rails(cutting, line)), crossed(cutting, line)
    above = [ties[rail] for rail in low_pairing(cutting, line)]
    return tuple(above.count(cut) - below.count(cut) for cut in cutting[1])


def slow_bars(cutting, line):
    """The bars of a line, by the words of the document."""
    return tuple(-1 if cut == line else int(helpers.meet_inside(cut, line)) for cut in cutting[1])


def is_side(cutting, line):
    return line[1] - line[0] in (1, cutting[0] - 1)


class Leads(TestCase):
    def test_leads_and_bars(self):
        for cutting in SMALL + [zigzag(9), halved(11), fan(10, 7)]:
            for line in combinations(range(cutting[0]), 2):
                self.assertEqual(lead(cutting, line), slow_lead(cutting, line))
                self.assertEqual(bars(cutting, line), slow_bars(cutting, line))
                if is_side(cutting, line):
                    self.assertEqual(set(lead(cutting, line)) | set(bars(cutting, line)), {0} if cutting[1] else set())

    def test_no_two_lines_are_alike(self):
        for cutting in SMALL + [zigzag(12), halved(13), fan(11, 4)]:
            lines = all_cuts(cutting[0])
            for call, back in ((lead, line_with_lead), (bars, line_with_bars)):
                told = [call(cutting, line) for line in lines]
                self.assertEqual(len(set(told)), len(lines))
                for line, row in list(zip(lines, told))[::max(1, cutting[0] - 6)]:
                    self.assertEqual(back(cutting, row), line)

    def test_rows_of_no_line(self):
        for cutting in LITTLE:
            leads = {lead(cutting, line): line for line in all_cuts(cutting[0])}
            some = {bars(cutting, line): line for line in all_cuts(cutting[0])}
            for row in product((-2, -1, 0, 1, 2), repeat=len(cutting[1])):
                self.assertEqual(line_with_lead(cutting, row), leads.get(row))
                self.assertEqual(line_with_bars(cutting, row), some.get(row))
        self.assertIsNone(line_with_lead(TRIANGLE, ()))
        self.assertIsNone(line_with_bars(TRIANGLE, ()))

    def test_great_ones(self):
        for cutting in GREAT[-9::3] + [zigzag(40), halved(40)]:
            for line in all_cuts(cutting[0])[::197]:
                row, other = lead(cutting, line), bars(cutting, line)
                self.assertEqual(row, slow_lead(cutting, line))
                self.assertEqual(line_with_lead(cutting, row), line)
                self.assertEqual(line_with_bars(cutting, other), line)


class Parts(TestCase):
    def check(self, cutting, row):
        told = lead_parts(cutting, row)
        self.assertIsInstance(told, tuple)
        lines = [line for line, _ in told]
        self.assertEqual(lines, sorted(set(lines)))
        self.assertTrue(all(number > 0 for _, number in told))
        self.assertFalse(any(is_side(cutting, line) for line in lines))
        self.assertFalse(any(helpers.meet_inside(one, other) for one, other in combinations(lines, 2)))
        total = [0] * len(row)
        for line, number in told:
            total = [item + number * other for item, other in zip(total, slow_lead(cutting, line))]
        self.assertEqual(tuple(total), row)
        return told

    def test_lead_parts(self):
        for cutting in LITTLE:
            for row in list(product((-2, -1, 0, 1, 3), repeat=len(cutting[1])))[::4]:
                self.check(cutting, row)
        for cutting in SMALL[::5]:
            for row in list(product((-30, -7, 0, 30), repeat=len(cutting[1])))[::31]:
                self.check(cutting, row)
        self.assertEqual(lead_parts(TRIANGLE, ()), ())
        self.assertEqual(lead_parts(zigzag(7), (0, 0, 0, 0)), ())

    def test_each_row_comes_in_one_way(self):
        for cutting in LITTLE:
            seen = {}
            for _, lines in helpers.every_cutting(cutting[0]):
                for numbers in product((0, 1, 2), repeat=len(lines)):
                    taken = tuple((line, number) for line, number in zip(lines, numbers) if number)
                    row = [0] * len(lines)
                    for line, number in taken:
                        row = [item + number * other for item, other in zip(row, slow_lead(cutting, line))]
                    self.assertEqual(seen.setdefault(tuple(row), taken), taken)
            for row, taken in list(seen.items())[::7]:
                self.assertEqual(lead_parts(cutting, row), taken)

    def test_wrong_rows(self):
        for call in (line_with_lead, line_with_bars, lead_parts):
            for row in ((0,), (0, 0, 0), (31, 0), (0, -31), [0, 0], (0, True), (0, None), None, 0, ()):
                with self.assertRaises(InvalidRow):
                    call(P, row)
        self.assertTrue(lead_parts(P, (30, -30)))
        self.assertIsNone(line_with_lead(P, (30, -30)))
        for sides in (8, 40):
            with self.assertRaises(TooMany) as caught:
                lead_parts(fan(sides), (0,) * (sides - 3))
            self.assertEqual(caught.exception.limit, 7)
            with self.assertRaises(InvalidRow):
                lead_parts(fan(sides), (31,) * (sides - 3))
        for call in (lead, bars):
            for line in ((1, 1), (4, 1), (0, 5), [0, 2], None):
                with self.assertRaises(InvalidLine):
                    call(P, line)
