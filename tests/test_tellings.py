"""Point 95: cuttings by what is told of them."""

from itertools import combinations, product
from unittest import TestCase

from eightworlds.errors import InvalidCorner, InvalidCutting, InvalidFacts, InvalidSides, TooMany
from eightworlds.listing import cuttings
from eightworlds.tellings import cuttings_told, fewest_counts, surely_tied
from tests import helpers
from tests.calls_states import FACTS
from tests.helpers import SMALL, TRIANGLE, fan, zigzag


def slow_goes(cutting, fact):
    """Whether a fact goes with a cutting, by the words of the document."""
    counts = helpers.slow_counts(cutting)
    if fact[0] == "tie":
        return (tuple(fact[1:3]) in helpers.slow_ties(cutting)) is fact[3]
    if fact[0] == "count":
        return counts[fact[1]] == fact[2]
    return (counts[fact[1]] == 1) is fact[2]


def every_fact(sides):
    """All facts of a polygon, with numbers up to its sides."""
    corners = range(sides)
    yield from [("tie", one, other, truth) for one, other in combinations(corners, 2) for truth in (True, False)]
    yield from [("count", corner, number) for corner in corners for number in range(sides)]
    yield from [("ear", corner, truth) for corner in corners for truth in (True, False)]


ALL = {sides: cuttings(sides) for sides in range(3, 10)}


class Told(TestCase):
    def test_one_fact(self):
        for sides in range(3, 7):
            for fact in every_fact(sides):
                told = cuttings_told(sides, (fact,))
                self.assertIsInstance(told, list)
                self.assertEqual(told, [cutting for cutting in ALL[sides] if slow_goes(cutting, fact)])

    def test_two_facts(self):
        for sides in (4, 5):
            facts = list(every_fact(sides))
            for one, other in product(facts[::2], facts[::3]):
                wanted = [cutting for cutting in ALL[sides] if slow_goes(cutting, one) and slow_goes(cutting, other)]
                self.assertEqual(cuttings_told(sides, (one, other)), wanted)

    def test_many_facts(self):
        for sides in (6, 8, 9):
            for cutting in ALL[sides][::31]:
                counts = helpers.slow_counts(cutting)
                facts = tuple(("count", corner, counts[corner]) for corner in range(sides))[:8]
                self.assertEqual(cuttings_told(sides, facts), [cutting])
                facts = tuple(("tie",) + cut + (True,) for cut in cutting[1])
                self.assertEqual(cuttings_told(sides, facts), [cutting])
                ears = tuple(("ear", corner, counts[corner] == 1) for corner in range(sides))[:8]
                wanted = [one for one in ALL[sides] if all(slow_goes(one, fact) for fact in ears)]
                self.assertEqual(cuttings_told(sides, ears), wanted)

    def test_no_facts(self):
        for sides in range(3, 10):
            self.assertEqual(cuttings_told(sides, ()), ALL[sides])
        self.assertEqual(cuttings_told(5, (("count", 0, 40),)), [])
        self.assertEqual(cuttings_told(5, (("count", 0, 0),)), [])
        self.assertEqual(cuttings_told(5, (("ear", 0, True),) * 8), cuttings_told(5, (("ear", 0, True),)))
        self.assertEqual(cuttings_told(5, (("ear", 0, True), ("ear", 0, False))), [])


class Tied(TestCase):
    def test_surely_tied(self):
        for sides in range(3, 6):
            facts = list(every_fact(sides))
            for some in [()] + [(fact,) for fact in facts] + list(product(facts[::5], facts[::7])):
                told = cuttings_told(sides, some)
                for first, last in combinations(range(sides), 2):
                    known = {(first, last) in helpers.slow_ties(cutting) for cutting in told}
                    wanted = known.pop() if len(known) == 1 else None
                    self.assertIs(surely_tied(sides, some, first, last), wanted)
                    self.assertIs(surely_tied(sides, some, last, first), wanted)

    def test_sides_are_ties(self):
        for sides in range(3, 10):
            self.assertIs(surely_tied(sides, (), 0, sides - 1), True)
            self.assertIs(surely_tied(sides, (("count", 0, 40),), 0, 1), None)

    def test_corners(self):
        for wrong in helpers.wrong_ints(0, 4):
            for first, last in ((wrong, 1), (1, wrong), (wrong, wrong)):
                with self.assertRaises(InvalidCorner):
                    surely_tied(5, (), first, last)
        for corner in range(5):
            with self.assertRaises(InvalidCorner):
                surely_tied(5, (), corner, corner)


class Fewest(TestCase):
    def test_all_of_up_to_seven_sides(self):
        for sides in range(3, 8):
            counts = {cutting: helpers.slow_counts(cutting) for cutting in ALL[sides]}
            for cutting in ALL[sides]:
                told = fewest_counts(cutting)
                self.assertIsInstance(told, tuple)
                some = [corners for many in range(sides) for corners in combinations(range(sides), many)]
                wanted = next(
                    corners for corners in some
                    if not any(
                        other != cutting and all(counts[other][corner] == counts[cutting][corner] for corner in corners)
                        for other in ALL[sides]
                    )
                )
                self.assertEqual(told, wanted)

    def test_edges(self):
        self.assertEqual(fewest_counts(TRIANGLE), ())
        for corner in range(9):
            self.assertEqual(fewest_counts(fan(9, corner)), (corner,))
        for cutting in ALL[9][::20]:
            told = fewest_counts(cutting)
            counts = helpers.slow_counts(cutting)
            self.assertEqual(cuttings_told(9, tuple(("count", corner, counts[corner]) for corner in told)), [cutting])
        self.assertTrue(all(fewest_counts(cutting) for cutting in SMALL if cutting != TRIANGLE))


class WrongTellings(TestCase):
    def test_facts(self):
        for wrong in FACTS[1]:
            for call in (cuttings_told, lambda sides, facts: surely_tied(sides, facts, 9, 9)):
                for sides in (5,):
                    with self.assertRaises(InvalidFacts):
                        call(sides, wrong)
        with self.assertRaises(InvalidFacts):
            cuttings_told(9, (("ear", 0, True),) * 9)
        with self.assertRaises(InvalidFacts):
            cuttings_told(40, (("ear", 40, True),))

    def test_too_many(self):
        for sides in (10, 40):
            for call in (
                lambda: cuttings_told(sides, (("ear", sides - 1, True),)), lambda: surely_tied(sides, (), 0, sides - 1),
                lambda: fewest_counts(zigzag(sides)),
            ):
                with self.assertRaises(TooMany) as caught:
                    call()
                self.assertEqual(caught.exception.limit, 9)
            with self.assertRaises(InvalidFacts):
                cuttings_told(sides, (("ear", sides, True),))
            with self.assertRaises(InvalidCorner):
                surely_tied(sides, (), 0, sides)
        with self.assertRaises(InvalidCutting):
            fewest_counts((10, ()))
        with self.assertRaises(InvalidSides):
            cuttings_told(41, None)
        with self.assertRaises(InvalidSides):
            surely_tied(2, None, 0, 0)
