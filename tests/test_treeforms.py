"""Point 69: trees, those of cuttings, and reaches."""

from itertools import product
from unittest import TestCase

from eightworlds.errors import InvalidReaches, InvalidTree, TooMany
from eightworlds.listing import cuttings
from eightworlds.treeforms import forks_of, is_tree, reaches, tree_by, tree_cutting, tree_flipped, tree_of
from tests import helpers
from tests.calls_trees import NO_TREES, branching, comb_of
from tests.helpers import LITTLE, TRIANGLE, fan, halved, zigzag
from tests.slow_trees import SOME_TREES, TREES, size


def slow_reaches(tree):
    return slow_reaches(tree[0]) + (size(tree[1]),) + slow_reaches(tree[1]) if tree else ()


def slow_flipped(tree):
    return (slow_flipped(tree[1]), slow_flipped(tree[0])) if tree else ()


def slow_tree(cutting):
    """The tree of a cutting, by the words of the document."""
    known = helpers.slow_pieces(cutting)

    def hang(a, b):
        if b == a + 1:
            return ()
        k = next(piece[1] for piece in known if (piece[0], piece[2]) == (a, b))
        return (hang(a, k), hang(k, b))

    return hang(0, cutting[0] - 1)


class Trees(TestCase):
    def test_is_tree(self):
        for tree in SOME_TREES + [comb_of(24), slow_flipped(comb_of(24)), branching(4), (comb_of(12), comb_of(11))]:
            self.assertIs(is_tree(tree), True)
            self.assertEqual(forks_of(tree), size(tree))
        for value in NO_TREES:
            self.assertIs(is_tree(value), False)
        for tree in TREES[3]:
            for value in helpers.spoiled(tree, lengths=False):
                self.assertEqual(is_tree(value), value in SOME_TREES, value)

    def test_values_that_hold_one_tuple_again_and_again(self):
        for value in (branching(5), branching(29), ((), branching(28)), (branching(4), branching(4)), (branching(28), None)):
            with helpers.Meanwhile() as meanwhile:
                self.assertIs(is_tree(value), False)
                with self.assertRaises(InvalidTree):
                    forks_of(value)
            self.assertLess(meanwhile.seconds, 0.1)

    def test_of_cuttings(self):
        for cutting in LITTLE + [zigzag(26), halved(26), fan(26), fan(26, 25), fan(26, 9), zigzag(13)]:
            tree = slow_tree(cutting)
            self.assertEqual(tree_of(cutting), tree)
            self.assertEqual(tree_cutting(tree), cutting)
        self.assertEqual(tree_of(TRIANGLE), ((), ()))
        for forks in range(1, 6):
            self.assertEqual([tree_of(cutting) for cutting in cuttings(forks + 2)], TREES[forks])
        with self.assertRaises(InvalidTree):
            tree_cutting(())

    def test_a_fork_is_the_piece_with_the_next_middle_corner(self):
        for cutting in LITTLE + [halved(20), zigzag(21)]:
            row = reaches(tree_of(cutting))
            for low, middle, high in helpers.slow_pieces(cutting):
                self.assertEqual(row[middle - 1], high - middle - 1)

    def test_reaches_and_flips(self):
        for tree in SOME_TREES + [comb_of(24), slow_flipped(comb_of(24)), branching(4), slow_tree(zigzag(26))]:
            self.assertEqual(reaches(tree), slow_reaches(tree))
            self.assertEqual(tree_by(slow_reaches(tree)), tree)
            self.assertEqual(tree_flipped(tree), slow_flipped(tree))
            self.assertEqual(tree_flipped(tree_flipped(tree)), tree)

    def test_what_is_no_reaches(self):
        for forks in range(6):
            known = {slow_reaches(tree): tree for tree in TREES[forks]}
            self.assertEqual(len(known), len(TREES[forks]))
            for row in product(range(-1, forks + 1), repeat=forks):
                if row in known:
                    self.assertEqual(tree_by(row), known[row])
                else:
                    with self.assertRaises(InvalidReaches):
                        tree_by(row)
        for row in ((0,) * 25, (24,) + (0,) * 24, (24,) + (0,) * 23, [0], (False,), (0, None), None, 0, (1,), (10 ** 100,)):
            with self.assertRaises(InvalidReaches):
                tree_by(row)
        self.assertEqual(tree_by((0,) * 24), comb_of(24))
        self.assertEqual(tree_by(tuple(range(23, -1, -1))), slow_flipped(comb_of(24)))

    def test_too_many_sides(self):
        for sides in (27, 40):
            with self.assertRaises(TooMany) as caught:
                tree_of(fan(sides))
            self.assertEqual(caught.exception.limit, 26)
