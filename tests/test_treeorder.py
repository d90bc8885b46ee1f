"""Point 73: the order of trees."""

from math import factorial
from unittest import TestCase

from eightworlds.errors import InvalidCut, InvalidFork, InvalidTree, TooMany, Unlike
from eightworlds.exchanges import exchanged
from eightworlds.treechains import count_below
from eightworlds.treeforms import reaches, tree_flipped, tree_of
from eightworlds.treenumbers import tree_with
from eightworlds.treeorder import fork_turned, is_below, join, meet, turnable, turned_fork, way_up
from tests.calls_trees import comb_of
from tests.helpers import SMALL, TRIANGLE, fan, halved, zigzag
from tests.slow_trees import ABOVE, SOME_TREES, TREES, turns

GREAT_TREES = [tree_with(24, number) for number in (0, 7 * 10 ** 5, 10 ** 9, 10 ** 12 + 7, 1289904147323)]
GREAT_TREES += [tree_of(halved(26)), tree_of(zigzag(26))]


def pairs():
    """All pairs of trees of as many forks."""
    return [(one, other) for trees in TREES.values() for one in trees for other in trees]


class Turning(TestCase):
    def test_turnings(self):
        for tree in SOME_TREES + GREAT_TREES:
            wanted = dict(turns(tree))
            told = turnable(tree)
            self.assertIsInstance(told, list)
            self.assertEqual(told, sorted(wanted))
            for fork, other in wanted.items():
                self.assertEqual(fork_turned(tree, fork), other)
            for fork in [None, True, -1, 25, "1", (1,)] + list(range(25)):
                if isinstance(fork, bool) or fork not in wanted:
                    with self.assertRaises(InvalidFork):
                        fork_turned(tree, fork)

    def test_turned_fork(self):
        for cutting in SMALL + [zigzag(26), halved(26), fan(26, 25), fan(26, 11), zigzag(15)]:
            for cut in cutting[1]:
                number, up = turned_fork(cutting, cut)
                self.assertIsInstance(up, bool)
                one, other = tree_of(cutting), tree_of(exchanged(cutting, cut))
                if up:
                    self.assertIn((number, other), turns(one))
                else:
                    self.assertIn((number, one), turns(other))
        for sides in (27, 40):
            with self.assertRaises(TooMany) as caught:
                turned_fork(fan(sides), (0, 2))
            self.assertEqual(caught.exception.limit, 26)
            with self.assertRaises(InvalidCut):
                turned_fork(fan(sides), (1, 3))
        with self.assertRaises(InvalidCut):
            turned_fork(TRIANGLE, (0, 2))


class Order(TestCase):
    def test_below(self):
        for one, other in pairs():
            below = other in ABOVE[one]
            self.assertIs(is_below(one, other), below)
            self.assertEqual(below, all(mine <= yours for mine, yours in zip(reaches(one), reaches(other))))
            self.assertIs(is_below(tree_flipped(other), tree_flipped(one)), below)

    def test_meet_and_join(self):
        for one, other in pairs():
            if len(reaches(one)) == 5 and (sum(reaches(one)) + 2 * sum(reaches(other))) % 3:
                continue
            trees = TREES[len(reaches(one))]
            below = [tree for tree in trees if one in ABOVE[tree] and other in ABOVE[tree]]
            wanted = [tree for tree in below if all(tree in ABOVE[lower] for lower in below)]
            self.assertEqual([meet(one, other)], wanted)
            self.assertEqual(reaches(wanted[0]), tuple(map(min, zip(reaches(one), reaches(other)))))
            higher = ABOVE[one] & ABOVE[other]
            self.assertEqual([join(one, other)], [tree for tree in higher if higher <= ABOVE[tree]])

    def test_as_many_pairs(self):
        for forks, trees in TREES.items():
            many = sum(len(ABOVE[tree]) for tree in trees)
            self.assertEqual(many, 2 * factorial(4 * forks + 1) // (factorial(forks + 1) * factorial(3 * forks + 2)))
            self.assertEqual(count_below(forks), many)

    def check_way(self, one, other):
        way = way_up(one, other)
        self.assertIsInstance(way, tuple)
        for fork in way:
            one = dict(turns(one))[fork]
        self.assertEqual(one, other)

    def test_ways_up(self):
        for one, other in pairs():
            if other in ABOVE[one]:
                self.check_way(one, other)
            else:
                self.assertIsNone(way_up(one, other))
        for one in GREAT_TREES:
            self.check_way(comb_of(24), one)
            self.check_way(one, tree_flipped(comb_of(24)))
            for other in GREAT_TREES:
                self.check_way(meet(one, other), one)
                self.check_way(one, join(one, other))

    def test_great_ones(self):
        for one in GREAT_TREES:
            for other in GREAT_TREES:
                low, high = meet(one, other), join(one, other)
                self.assertEqual(reaches(low), tuple(map(min, zip(reaches(one), reaches(other)))))
                self.assertTrue(is_below(low, one) and is_below(low, other) and is_below(one, high) and is_below(other, high))
                self.assertEqual(tree_flipped(high), meet(tree_flipped(one), tree_flipped(other)))

    def test_unlike(self):
        for call in (is_below, meet, join, way_up):
            for one, other in (((), comb_of(1)), (comb_of(24), comb_of(23)), (comb_of(3), ())):
                with self.assertRaises(Unlike):
                    call(one, other)
            with self.assertRaises(InvalidTree):
                call(comb_of(3), comb_of(25))
            with self.assertRaises(InvalidTree):
                call(comb_of(25), ())
            self.assertIn(call((), ()), (True, ()))
