"""Point 74: trees between two trees, and ways of turnings."""

from fractions import Fraction
from math import factorial
from unittest import TestCase

from eightworlds.errors import InvalidNumber, InvalidTree, TooMany, Unlike
from eightworlds.treechains import (
    count_below, count_ways, fewest_up, greatest_tree, least_tree, longest_up, trees_between,
)
from eightworlds.treeforms import tree_flipped
from eightworlds.treenumbers import tree_number
from tests import helpers
from tests.calls_trees import comb_of
from tests.slow_trees import ABOVE, TREES, all_trees, turns


def slow_ways(one, other):
    """How many turnings each way from the one tree to the other one has."""
    if one == other:
        return [0]
    return [1 + many for _, behind in turns(one) if other in ABOVE[behind] for many in slow_ways(behind, other)]


class Chains(TestCase):
    def test_between(self):
        for trees in TREES.values():
            for one in trees:
                for other in trees:
                    told = trees_between(one, other)
                    self.assertIsInstance(told, list)
                    self.assertEqual(told, [tree for tree in trees if tree in ABOVE[one] and other in ABOVE[tree]])

    def test_ways(self):
        for trees in TREES.values():
            for one in trees:
                for other in trees:
                    ways = slow_ways(one, other) if other in ABOVE[one] else []
                    self.assertEqual(count_ways(one, other), len(ways))
                    self.assertEqual(fewest_up(one, other), min(ways, default=None))
                    self.assertEqual(longest_up(one, other), max(ways, default=None))

    def test_from_the_least_to_the_greatest(self):
        for forks in range(8):
            one, other = least_tree(forks), greatest_tree(forks)
            self.assertEqual(fewest_up(one, other), max(forks - 1, 0))
            self.assertEqual(longest_up(one, other), forks * (forks - 1) // 2)
            self.assertEqual(trees_between(one, other), all_trees(forks))
            self.assertEqual(count_ways(one, other), (1, 1, 1, 2, 9, 98, 2981, 340549)[forks])
            self.assertEqual(fewest_up(other, one), None if forks > 1 else 0)
            self.assertEqual(longest_up(other, one), None if forks > 1 else 0)
        trees = all_trees(7)
        for one, other in ((trees[100], trees[40]), (trees[400], trees[7]), (trees[300], trees[300])):
            numbers = [tree_number(tree) for tree in trees_between(one, other)]
            self.assertEqual(numbers, sorted(set(numbers)))

    def test_least_and_greatest(self):
        for forks in range(25):
            self.assertEqual(least_tree(forks), comb_of(forks))
            self.assertEqual(greatest_tree(forks), tree_flipped(comb_of(forks)))
        for forks in range(6):
            self.assertTrue(all(greatest_tree(forks) in ABOVE[tree] for tree in TREES[forks]))

    def test_count_below(self):
        self.assertEqual([count_below(forks) for forks in range(8)], [1, 1, 3, 13, 68, 399, 2530, 16965])
        self.assertEqual(count_below(24), Fraction(2 * factorial(97), factorial(25) * factorial(74)))

    def test_errors(self):
        for call in (trees_between, longest_up, fewest_up, count_ways):
            with self.assertRaises(TooMany) as caught:
                call(comb_of(8), comb_of(8))
            self.assertEqual(caught.exception.limit, 7)
            for one, other in ((comb_of(8), comb_of(7)), ((), comb_of(1)), (comb_of(24), comb_of(23))):
                with self.assertRaises(Unlike):
                    call(one, other)
            with self.assertRaises(InvalidTree):
                call(comb_of(8), comb_of(25))
        for value in helpers.wrong_ints(0, 24):
            for call in (count_below, least_tree, greatest_tree):
                with self.assertRaises(InvalidNumber):
                    call(value)
