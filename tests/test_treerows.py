"""Points 70 and 71: mountains, heights and votes."""

from itertools import product
from unittest import TestCase

from eightworlds.errors import InvalidHeights, InvalidMountain, InvalidNumber, InvalidVotes
from eightworlds.treenumbers import tree_with
from eightworlds.treerows import (
    count_votes, heights, mountain, peaks, touches, tree_of_heights, tree_of_mountain, votes_number, votes_with,
)
from tests import helpers
from tests.calls_trees import HEIGHTS, MOUNTAIN, VOTES, comb_of
from tests.slow_trees import SOME_TREES, TREES

GREAT_TREES = [comb_of(24)] + [tree_with(24, number) for number in (0, 10 ** 9, 10 ** 12 + 7, 1289904147323)]


def slow_mountain(tree):
    return "u" + slow_mountain(tree[0]) + "d" + slow_mountain(tree[1]) if tree else ""


def slow_heights(signs):
    found = [0]
    for sign in signs:
        found.append(found[-1] + {"u": 1, "d": -1}[sign])
    return tuple(found)


def is_fair(signs, up, down):
    """Whether up to each place there are no fewer of the one sign."""
    return all(signs[:at].count(up) >= signs[:at].count(down) for at in range(len(signs) + 1))


def slow_votes(mine, yours):
    """All votes, ascending."""
    return [
        "".join(signs) for signs in product("AB", repeat=mine + yours)
        if signs.count("A") == mine and is_fair(signs, "A", "B")
    ]


class Mountains(TestCase):
    def test_there_and_back(self):
        for tree in SOME_TREES + GREAT_TREES:
            signs = slow_mountain(tree)
            self.assertEqual(mountain(tree), signs)
            self.assertEqual(tree_of_mountain(signs), tree)
            self.assertEqual(heights(tree), slow_heights(signs))
            self.assertEqual(tree_of_heights(slow_heights(signs)), tree)
            self.assertEqual(peaks(tree), sum(signs[at:at + 2] == "ud" for at in range(len(signs))))
            self.assertEqual(touches(tree), len([height for height in slow_heights(signs) if height == 0]) - 1)
        self.assertEqual((mountain(()), heights(()), peaks(()), touches(())), ("", (0,), 0, 0))
        self.assertEqual((tree_of_mountain(""), tree_of_heights((0,))), ((), ()))

    def test_what_is_none(self):
        for many in range(9):
            for signs in map("".join, product("ud", repeat=many)):
                if is_fair(signs, "u", "d") and signs.count("u") == signs.count("d"):
                    self.assertIn(tree_of_mountain(signs), TREES[many // 2])
                    self.assertEqual(mountain(tree_of_mountain(signs)), signs)
                    continue
                with self.assertRaises(InvalidMountain):
                    tree_of_mountain(signs)
                with self.assertRaises(InvalidHeights):
                    tree_of_heights(slow_heights(signs))
        for value in MOUNTAIN[1]:
            with self.assertRaises(InvalidMountain):
                tree_of_mountain(value)
        for value in HEIGHTS[1]:
            with self.assertRaises(InvalidHeights):
                tree_of_heights(value)
        self.assertEqual(tree_of_mountain("u" * 24 + "d" * 24), comb_of(24))


class Votes(TestCase):
    def test_votes(self):
        for mine in range(7):
            for yours in range(mine + 1):
                wanted = slow_votes(mine, yours)
                self.assertEqual(count_votes(mine, yours), len(wanted))
                self.assertEqual([votes_with(mine, yours, number) for number in range(len(wanted))], wanted)
                self.assertEqual([votes_number(value) for value in wanted], list(range(len(wanted))))
                for number in (-1, len(wanted)):
                    with self.assertRaises(InvalidNumber):
                        votes_with(mine, yours, number)

    def test_no_votes(self):
        self.assertEqual((count_votes(0, 0), votes_with(0, 0, 0), votes_number("")), (1, "", 0))

    def test_what_is_none(self):
        for many in range(9):
            for value in map("".join, product("AB", repeat=many)):
                if is_fair(value, "A", "B"):
                    self.assertEqual(votes_with(value.count("A"), value.count("B"), votes_number(value)), value)
                else:
                    with self.assertRaises(InvalidVotes):
                        votes_number(value)
        for value in VOTES[1]:
            with self.assertRaises(InvalidVotes):
                votes_number(value)

    def test_great_ones(self):
        self.assertEqual(count_votes(60, 60), count_votes(60, 59))
        for mine, yours in ((60, 60), (60, 0), (60, 30), (59, 59), (60, 59)):
            most = count_votes(mine, yours) - 1
            self.assertEqual(votes_with(mine, yours, 0), "A" * mine + "B" * yours)
            for number in {0, most // 3, most // 2, most - most // 7, most}:
                value = votes_with(mine, yours, number)
                self.assertEqual((value.count("A"), value.count("B")), (mine, yours))
                self.assertTrue(is_fair(value, "A", "B"))
                self.assertEqual(votes_number(value), number)
        self.assertEqual(votes_with(60, 60, count_votes(60, 60) - 1), "AB" * 60)

    def test_even_votes_are_as_many_as_trees(self):
        for forks, trees in TREES.items():
            self.assertEqual(count_votes(forks, forks), len(trees))
            told = {mountain(tree).replace("u", "A").replace("d", "B") for tree in trees}
            self.assertEqual(sorted(told), [votes_with(forks, forks, number) for number in range(len(trees))])

    def test_wrong_numbers(self):
        for mine, yours in ((3, 4), (61, 3), (-1, -1), (3, -1), (61, 61), (None, 3), (3, None), (True, 0), (1, True)):
            with self.assertRaises(InvalidNumber):
                count_votes(mine, yours)
            with self.assertRaises(InvalidNumber):
                votes_with(mine, yours, 0)
        for value in helpers.wrong_ints(0, 2):
            with self.assertRaises(InvalidNumber):
                votes_with(3, 1, value)
