"""The limits of the document for trees, votes, partings and swaps."""

from eightworlds import overs, partingcounts, partings, swaps, treechains, treeforms, treenumbers, treeorder, treerows
from tests.calls_trees import comb_of
from tests.helpers import fan, halved, zigzag
from tests.test_partings import GREAT_PARTINGS, SINGLE, WHOLE
from tests.test_swaps import great_parkings
from tests.test_treeorder import GREAT_TREES
from tests.timed import Timed


class Trees(Timed):
    def test_trees(self):
        for tree in GREAT_TREES + [comb_of(24)]:
            for call in (
                treeforms.is_tree, treeforms.forks_of, treeforms.tree_cutting, treeforms.reaches, treeforms.tree_flipped,
                treerows.mountain, treerows.heights, treerows.peaks, treerows.touches, treenumbers.tree_number, treeorder.turnable,
            ):
                self.timed(call, tree)
            self.assertEqual(self.timed(treeforms.tree_by, treeforms.reaches(tree)), tree)
            self.assertEqual(self.timed(treerows.tree_of_mountain, treerows.mountain(tree)), tree)
            self.assertEqual(self.timed(treerows.tree_of_heights, treerows.heights(tree)), tree)
            self.assertEqual(self.timed(treenumbers.tree_with, 24, treenumbers.tree_number(tree)), tree)
            for other in GREAT_TREES:
                for call in (treeorder.is_below, treeorder.meet, treeorder.join, treeorder.way_up):
                    self.timed(call, tree, other)
            for fork in treeorder.turnable(tree):
                self.timed(treeorder.fork_turned, tree, fork)
        for cutting in (zigzag(26), fan(26), halved(26)):
            self.timed(treeforms.tree_of, cutting)
            self.timed(treeorder.turned_fork, cutting, cutting[1][11])

    def test_from_the_least_to_the_greatest(self):
        low, high = self.timed(treechains.least_tree, 24), self.timed(treechains.greatest_tree, 24)
        self.assertTrue(23 <= len(self.timed(treeorder.way_up, low, high)) <= 276)
        self.timed(treechains.count_below, 24)
        low, high = treechains.least_tree(7), treechains.greatest_tree(7)
        self.assertEqual(len(self.timed(treechains.trees_between, low, high)), 429)
        for call in (treechains.longest_up, treechains.fewest_up, treechains.count_ways):
            self.timed(call, low, high)
            self.timed(call, high, low)

    def test_votes_and_counts(self):
        most = self.timed(treerows.count_votes, 60, 60)
        for number in (0, most // 3, most - 1):
            value = self.timed(treerows.votes_with, 60, 60, number)
            self.assertEqual(self.timed(treerows.votes_number, value), number)
        for forks in range(25):
            self.timed(treenumbers.count_trees, forks)
            for many in range(25):
                self.timed(treenumbers.count_peaks, forks, many)


class Partings(Timed):
    def test_partings(self):
        for one in GREAT_PARTINGS:
            for call in (
                partings.is_parting, overs.over, overs.under, overs.mirrored_points, overs.parting_cutting,
                partingcounts.parting_number,
            ):
                self.timed(call, one)
            self.timed(overs.turned_points, one, -999)
            for other in GREAT_PARTINGS:
                for call in (partings.is_finer, partings.meet_of, partings.join_of, partings.signed_number):
                    self.timed(call, one, other)
        self.assertNotEqual(self.timed(partings.signed_number, SINGLE, WHOLE), 0)
        for cutting in (zigzag(40), fan(40, 8), halved(40)):
            self.timed(overs.parting_of, cutting)
            self.timed(overs.by_least, cutting)
            self.timed(overs.moved_point, cutting, cutting[1][18])

    def test_lists(self):
        self.assertEqual(len(self.timed(partings.partings, 8)), 1430)
        single, whole = tuple((point,) for point in range(8)), (tuple(range(8)),)
        self.assertEqual(len(self.timed(partings.partings_between, single, whole)), 1430)
        self.assertEqual(self.timed(partings.partings_between, whole, single), [])
        self.assertEqual(len(self.timed(swaps.great_swaps, 5)), 125)

    def test_counts(self):
        for points in (1, 38, 999, 1000):
            self.timed(partingcounts.count_partings, points)
            self.timed(partingcounts.count_blocks, points, (points + 1) // 2)
            self.timed(partingcounts.count_great, points)
            self.timed(partingcounts.count_rising, points, 1000)
        self.timed(partingcounts.count_sized, 1000, (11,) * 89 + (21,))
        self.timed(partingcounts.count_sized, 90, (1,) * 90)
        most = partingcounts.count_partings(38)
        for number in (0, most // 2, most - 1):
            self.timed(partingcounts.parting_with, 38, number)

    def test_swaps(self):
        for parking in great_parkings():
            some = self.timed(swaps.swaps_for, 38, parking)
            self.assertIs(self.timed(swaps.are_great, 38, some), True)
            self.assertEqual(self.timed(swaps.parking_of, 38, some), parking)
            self.assertEqual(self.timed(swaps.swaps_of, self.timed(swaps.stair_of, 38, some)), some)
        self.timed(swaps.swaps_of, (SINGLE,) * 38)
        self.timed(swaps.are_great, 38, ((0, 1),) * 37)
