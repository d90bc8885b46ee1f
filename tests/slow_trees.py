"""Trees, and their order, found in slow ways that are easy to believe."""


def all_trees(forks):
    """All trees of so many forks, in the order of their numbers."""
    if forks == 0:
        return [()]
    return [
        (left, right) for many in range(forks)
        for left in all_trees(many) for right in all_trees(forks - 1 - many)
    ]


def size(tree):
    """How many forks a tree has."""
    return 1 + size(tree[0]) + size(tree[1]) if tree else 0


def turns(tree, first=0):
    """All pairs of the number of a fork that can be turned, and the tree then."""
    if not tree:
        return []
    left, right = tree
    own = first + size(left)
    found = [(fork, (other, right)) for fork, other in turns(left, first)]
    if left:
        a, b = left
        found.append((own, (a, (b, right))))
    return found + [(fork, (left, other)) for fork, other in turns(right, own + 1)]


def above(tree):
    """All trees to which turnings lead from a tree, itself too."""
    found, waiting = {tree}, [tree]
    while waiting:
        for _, other in turns(waiting.pop()):
            if other not in found:
                found.add(other)
                waiting.append(other)
    return found


TREES = {forks: all_trees(forks) for forks in range(6)}
SOME_TREES = [tree for forks in TREES for tree in TREES[forks]]
ABOVE = {tree: above(tree) for tree in SOME_TREES}
