"""Point 72: trees numbered and counted."""

from unittest import TestCase

from eightworlds.errors import InvalidNumber
from eightworlds.listing import cuttings
from eightworlds.treeforms import tree_of
from eightworlds.treenumbers import count_peaks, count_trees, tree_number, tree_with
from eightworlds.treerows import peaks
from tests import helpers
from tests.calls_trees import comb_of
from tests.slow_trees import all_trees, size

TREES = {forks: all_trees(forks) for forks in range(8)}


class Numbers(TestCase):
    def test_numbers(self):
        for forks, trees in TREES.items():
            self.assertEqual(count_trees(forks), len(trees))
            self.assertEqual([tree_with(forks, number) for number in range(len(trees))], trees)
            self.assertEqual([tree_number(tree) for tree in trees], list(range(len(trees))))
            for number in (-1, len(trees), None, True, "0"):
                with self.assertRaises(InvalidNumber):
                    tree_with(forks, number)

    def test_the_order_of_the_cuttings(self):
        for sides in range(3, 10):
            told = [tree_number(tree_of(cutting)) for cutting in cuttings(sides)]
            self.assertEqual(told, list(range(len(told))))

    def test_great_ones(self):
        most = count_trees(24)
        self.assertEqual(most, 1289904147324)
        self.assertEqual(tree_number(comb_of(24)), most - 1)
        self.assertEqual(tree_with(24, most - 1), comb_of(24))
        for number in (0, 1, 10 ** 6, 10 ** 12, most // 2):
            tree = tree_with(24, number)
            self.assertEqual((size(tree), tree_number(tree)), (24, number))

    def test_peaks(self):
        for forks, trees in TREES.items():
            told = [peaks(tree) for tree in trees]
            for many in range(25):
                self.assertEqual(count_peaks(forks, many), told.count(many))
        for forks in range(25):
            self.assertEqual(sum(count_peaks(forks, many) for many in range(25)), count_trees(forks))
        self.assertEqual((count_peaks(24, 1), count_peaks(24, 24), count_peaks(24, 0), count_peaks(0, 0), count_peaks(0, 24)), (1, 1, 0, 1, 0))

    def test_wrong_numbers(self):
        for value in helpers.wrong_ints(0, 24):
            for call in (count_trees, lambda one: tree_with(one, 0), lambda one: count_peaks(one, 1), lambda one: count_peaks(3, one)):
                with self.assertRaises(InvalidNumber):
                    call(value)
