"""Point 81: passes of great swaps."""

from unittest import TestCase

from eightworlds.errors import InvalidIndex, InvalidPoints, InvalidSwaps, TooMany
from eightworlds.passes import passed, passed_back, passes_to
from eightworlds.swaps import are_great, great_swaps, swaps_for
from tests import helpers
from tests.slow_partings import ALL_SWAPS, do_swaps
from tests.slow_ways import one_step
from tests.test_swaps import great_parkings

LIST = {points: wanted for points, wanted in ALL_SWAPS.items() if points > 1}


def slow_pass(swaps, index):
    """Great swaps behind a pass, by the words of the document."""
    swap, following = swaps[index], swaps[index + 1]
    put = []
    for point in swap:
        if point in following:
            put.append(following[1 - following.index(point)])
        else:
            put.append(point)
    return swaps[:index] + (following, tuple(sorted(put))) + swaps[index + 2:]


def behind_all(points, swaps, indices):
    """Great swaps behind several passes."""
    for index in indices:
        swaps = passed(points, swaps, index)
    return swaps


BESIDE = {
    swaps: [slow_pass(swaps, index) for index in range(len(swaps) - 1)]
    for wanted in LIST.values() for swaps in wanted
}


class Passes(TestCase):
    def test_passed(self):
        for points, wanted in LIST.items():
            for swaps in wanted:
                for index in range(points - 2):
                    told = passed(points, swaps, index)
                    self.assertEqual(told, slow_pass(swaps, index))
                    self.assertIn(told, wanted)
                    self.assertEqual(passed_back(points, told, index), swaps)
                    self.assertEqual(passed(points, passed_back(points, swaps, index), index), swaps)

    def test_swaps_without_a_common_point_change_places(self):
        swaps = swaps_for(5, (0, 2, 0, 1))
        at = [set(one) & set(other) for one, other in zip(swaps, swaps[1:])].index(set())
        self.assertEqual(passed(5, swaps, at)[at:at + 2], (swaps[at + 1], swaps[at]))
        self.assertEqual(passed_back(5, swaps, at), passed(5, swaps, at))

    def test_of_many_points(self):
        for parking in great_parkings():
            swaps = swaps_for(38, parking)
            for index in range(37 - 1):
                told = passed(38, swaps, index)
                self.assertEqual(told, slow_pass(swaps, index))
                self.assertIs(are_great(38, told), True)
                self.assertEqual(do_swaps(38, told), do_swaps(38, swaps))
                self.assertEqual(passed_back(38, told, index), swaps)

    def test_passes_lead_from_all_to_all_others(self):
        for points in (2, 3, 4):
            far = one_step(LIST[points], BESIDE)
            self.assertEqual(len(far), len(LIST[points]) ** 2)
            for swaps in LIST[points]:
                for aim in LIST[points]:
                    told = passes_to(points, swaps, aim)
                    self.assertIsInstance(told, tuple)
                    self.assertEqual(behind_all(points, swaps, told), aim)
                    self.assertEqual(len(told), far[swaps, aim])
        far = one_step(LIST[5][:1] + LIST[5][60:61], BESIDE)
        self.assertEqual(len(far), 250)
        for (swaps, aim), many in far.items():
            told = passes_to(5, swaps, aim)
            self.assertEqual((behind_all(5, swaps, told), len(told)), (aim, many))

    def test_no_passes(self):
        self.assertEqual(passes_to(1, (), ()), ())
        self.assertEqual(passes_to(2, ((0, 1),), ((0, 1),)), ())
        for swaps in LIST[4]:
            self.assertEqual(passes_to(4, swaps, swaps), ())

    def test_indices(self):
        for points in range(1, 6):
            for swaps in ALL_SWAPS[points][:3]:
                for wrong in helpers.wrong_ints(0, points - 3):
                    for call in (passed, passed_back):
                        with self.assertRaises(InvalidIndex):
                            call(points, swaps, wrong)

    def test_order_of_errors(self):
        six = swaps_for(6, (0, 1, 2, 3, 4))
        with self.assertRaises(TooMany) as caught:
            passes_to(6, six, six)
        self.assertEqual(caught.exception.limit, 5)
        for points, swaps, aim, error in (
            (0, (), (), InvalidPoints), (39, six, six, InvalidPoints), (6, six[:4], six, InvalidSwaps),
            (6, six, six[::-1], InvalidSwaps), (6, six, None, InvalidSwaps), (7, six, six, InvalidSwaps),
        ):
            with self.assertRaises(error):
                passes_to(points, swaps, aim)
        with self.assertRaises(InvalidSwaps):
            passed(6, six[::-1], 9)
        self.assertEqual(len(great_swaps(5)), 125)
