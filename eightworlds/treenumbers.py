"""Trees numbered and counted."""

from math import comb

from eightworlds.basics import need_number
from eightworlds.listing import cutting_numbered, number_of, ways_of_forks
from eightworlds.treeforms import MOST_FORKS, need_tree, tree_by_cutting, tree_cutting


def tree_number(tree):
    """Return the number of a tree."""
    need_tree(tree)
    # Trees come in the order of the numbers of their cuttings; the empty one has no cutting.
    return number_of(tree_cutting(tree)) if tree else 0


def tree_with(forks, number):
    """Return the tree of so many forks with a number."""
    need_number(forks, 0, MOST_FORKS)
    need_number(number, 0, ways_of_forks(forks) - 1)
    return tree_by_cutting(cutting_numbered(forks + 2, number)) if forks > 0 else ()


def count_trees(forks):
    """Return how many trees of so many forks there are."""
    need_number(forks, 0, MOST_FORKS)
    return ways_of_forks(forks)


def count_peaks(forks, many):
    """Return how many trees of so many forks have mountains with so many peaks."""
    need_number(forks, 0, MOST_FORKS)
    need_number(many, 0, MOST_FORKS)
    if forks == 0 or many == 0:
        return 1 if forks == many else 0
    return comb(forks, many) * comb(forks, many - 1) // forks
