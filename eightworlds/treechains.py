"""Trees between two trees in their order, and the ways of turnings between these."""

from math import factorial

from eightworlds.basics import need_few, need_number
from eightworlds.treeforms import (
    MOST_FORKS, flipped_over, forks_within, need_trees, reaches_within, tree_by_reaches
)
from eightworlds.treenumbers import tree_number
from eightworlds.treeorder import forks_to_turn, lies_below, row_turned

MOST_FORKS_BETWEEN = 7


def need_two_trees(one, other):
    """Return the reaches of two trees, and raise an error for what are no two of as many forks, not too many."""
    need_trees(one, other)
    need_few(forks_within(one), MOST_FORKS_BETWEEN)
    return (reaches_within(one), reaches_within(other))


def rows_above(row, aim):
    """Return the list of the reaches to which one turning leads, and from which others lead to those aimed at."""
    found = [row_turned(row, fork) for fork in forks_to_turn(row)]
    return [other for other in found if lies_below(other, aim)]


def rows_between(row, aim):
    """Return the ascending list of all reaches between two ones, these too."""
    if not lies_below(row, aim):
        return []
    found = {row: True}
    waiting = [row]
    while waiting:
        here = waiting.pop()
        for above in rows_above(here, aim):
            if above not in found:
                found[above] = True
                waiting.append(above)
    return sorted(found)


def tally_up(row, aim):
    """Return how few and how many turnings lead from reaches to other ones above, and in how many ways."""
    tallies = {row: (0, 0, 1)}
    # Turnings make reaches greater; so all that lead to some reaches are known when these come.
    for here in rows_between(row, aim):
        few, many, ways = tallies[here]
        for above in rows_above(here, aim):
            fewest, most, known = tallies.get(above, (few + 1, many + 1, 0))
            tallies[above] = (min(fewest, few + 1), max(most, many + 1), known + ways)
    return tallies.get(aim, (None, None, 0))


def trees_between(one, other):
    """Return the list of all trees above the one and below the other one, in the order of their numbers."""
    row, aim = need_two_trees(one, other)
    return sorted([tree_by_reaches(some) for some in rows_between(row, aim)], key=tree_number)


def longest_up(one, other):
    """Return the greatest number of turnings that lead from the one tree to the other one, or None."""
    row, aim = need_two_trees(one, other)
    return tally_up(row, aim)[1]


def fewest_up(one, other):
    """Return the least number of turnings that lead from the one tree to the other one, or None."""
    row, aim = need_two_trees(one, other)
    return tally_up(row, aim)[0]


def count_ways(one, other):
    """Return in how many ways turnings lead from the one tree to the other one."""
    row, aim = need_two_trees(one, other)
    return tally_up(row, aim)[2]


def count_below(forks):
    """Return how many pairs of trees of so many forks there are of which the former is below the latter."""
    need_number(forks, 0, MOST_FORKS)
    return 2 * factorial(4 * forks + 1) // (factorial(forks + 1) * factorial(3 * forks + 2))


def least_tree(forks):
    """Return the least tree of so many forks."""
    need_number(forks, 0, MOST_FORKS)
    tree = ()
    for _ in range(forks):
        tree = (tree, ())
    return tree


def greatest_tree(forks):
    """Return the greatest tree of so many forks."""
    return flipped_over(least_tree(forks))
