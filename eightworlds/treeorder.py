"""The order of trees in which turning a fork leads upward."""

from eightworlds.basics import is_int, need_few
from eightworlds.errors import InvalidFork
from eightworlds.exchanges import cut_behind
from eightworlds.polygons import need_cut, need_cutting
from eightworlds.treeforms import (
    MOST_FORKS, flipped_over, need_tree, need_trees, reaches_within, tree_by_reaches
)


def forks_to_turn(row):
    """Return the ascending list of the numbers of all forks that can be turned, of a tree with these reaches."""
    # The fork ahead in number is the last one of the left branch, if there is one; else it is farther down.
    return [fork for fork in range(1, len(row)) if row[fork - 1] == 0]


def row_turned(row, fork):
    """Return the reaches of a tree in which a fork is turned, which has these ones."""
    # The top of the left branch, which comes to have the fork on its right, is the first one to reach up to it.
    top = [other for other in range(fork) if other + row[other] == fork - 1][0]
    return row[:top] + (row[top] + 1 + row[fork],) + row[top + 1:]


def lies_below(row, other):
    """Return whether the tree with the one reaches is below that with the other ones."""
    return all([one <= another for one, another in zip(row, other)])


def turnable(tree):
    """Return the ascending list of the numbers of all forks that can be turned."""
    need_tree(tree)
    return forks_to_turn(reaches_within(tree))


def fork_turned(tree, fork):
    """Return a tree in which a fork is turned."""
    fit = turnable(tree)
    if not is_int(fork) or fork not in fit:
        raise InvalidFork("the number of a fork that can be turned is needed")
    return tree_by_reaches(row_turned(reaches_within(tree), fork))


def is_below(one, other):
    """Return whether the one tree is below the other one."""
    need_trees(one, other)
    return lies_below(reaches_within(one), reaches_within(other))


def tree_met(one, other):
    """Return the meet of what are known to be two trees of as many forks."""
    row = [min(mine, yours) for mine, yours in zip(reaches_within(one), reaches_within(other))]
    return tree_by_reaches(tuple(row))


def meet(one, other):
    """Return the meet of two trees."""
    need_trees(one, other)
    return tree_met(one, other)


def join(one, other):
    """Return the join of two trees."""
    need_trees(one, other)
    # Flipping turns the order about.
    return flipped_over(tree_met(flipped_over(one), flipped_over(other)))


def way_up(one, other):
    """Return numbers of forks whose turnings lead from the one tree to the other one, or None."""
    need_trees(one, other)
    row, aim = reaches_within(one), reaches_within(other)
    if not lies_below(row, aim):
        return None
    way = []
    while row != aim:
        # Where one tree is below another one, turning some fork of it leads to one that is still below.
        fork = [some for some in forks_to_turn(row) if lies_below(row_turned(row, some), aim)][0]
        way.append(fork)
        row = row_turned(row, fork)
    return tuple(way)


def turned_fork(cutting, cut):
    """Return the number of the fork that is turned if a cut is exchanged, and whether it is turned upward."""
    need_cutting(cutting)
    need_cut(cutting, cut)
    need_few(cutting[0], MOST_FORKS + 2)
    # Of the four corners, upward means from the cut with the first and the third one to that with the others.
    corners = sorted(cut + cut_behind(cutting, cut))
    return (corners[2] - 1, cut[0] == corners[0])
