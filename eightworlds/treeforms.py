"""Trees with two branches, those of cuttings, and their reaches."""

from eightworlds.basics import are_between, need_few
from eightworlds.errors import InvalidReaches, InvalidTree, Unlike
from eightworlds.polygons import need_cutting, parts

MOST_FORKS = 24


def is_tree(value):
    """Return whether any value is a tree."""
    waiting = [value]
    forks = 0
    while waiting:
        branch = waiting.pop()
        if not isinstance(branch, tuple) or len(branch) not in (0, 2):
            return False
        if branch:
            # A value can hold one tuple again and again; so the walk ends with the first fork that is too much.
            forks = forks + 1
            if forks > MOST_FORKS:
                return False
            waiting.extend(branch)
    return True


def need_tree(value):
    """Raise InvalidTree for what is no tree."""
    if not is_tree(value):
        raise InvalidTree(f"a tree of at most {MOST_FORKS} forks is needed")


def forks_within(tree):
    """Return how many forks what is known to be a tree has."""
    if not tree:
        return 0
    left, right = tree
    return forks_within(left) + 1 + forks_within(right)


def need_trees(one, other):
    """Raise InvalidTree for what is no tree, and Unlike for trees of which one has more forks."""
    need_tree(one)
    need_tree(other)
    if forks_within(one) != forks_within(other):
        raise Unlike("two trees of as many forks are needed")


def forks_of(tree):
    """Return how many forks a tree has."""
    need_tree(tree)
    return forks_within(tree)


def tree_over(low, high, thirds):
    """Return the tree for the base of two corners, from the third corners that all bases have."""
    if high == low + 1:
        return ()
    third = thirds[(low, high)]
    return (tree_over(low, third, thirds), tree_over(third, high, thirds))


def tree_by_cutting(cutting):
    """Return the tree of what is known to be a cutting."""
    thirds = {(low, high): third for low, third, high in parts(cutting[0], cutting[1])}
    return tree_over(0, cutting[0] - 1, thirds)


def tree_of(cutting):
    """Return the tree of a cutting."""
    need_cutting(cutting)
    need_few(cutting[0], MOST_FORKS + 2)
    return tree_by_cutting(cutting)


def bases_from(low, tree):
    """Return the bases of all forks of a tree, its own one first, which begins at this corner."""
    if not tree:
        return []
    left, right = tree
    third = low + forks_within(left) + 1
    return [(low, third + forks_within(right) + 1)] + bases_from(low, left) + bases_from(third, right)


def tree_cutting(tree):
    """Return the cutting whose tree it is."""
    need_tree(tree)
    if not tree:
        raise InvalidTree("a tree of at least one fork is needed")
    return (forks_within(tree) + 2, tuple(sorted(bases_from(0, tree)[1:])))


def reaches_within(tree):
    """Return the reaches of what is known to be a tree."""
    if not tree:
        return ()
    left, right = tree
    return reaches_within(left) + (forks_within(right),) + reaches_within(right)


def reaches(tree):
    """Return the reaches of a tree."""
    need_tree(tree)
    return reaches_within(tree)


def are_reaches(value):
    """Return whether any value is the reaches of a tree."""
    if not are_between(value, 0, MOST_FORKS - 1) or len(value) > MOST_FORKS:
        return False
    ends = [fork + reach for fork, reach in enumerate(value)]
    return all([max(ends[fork:end + 1]) == end < len(ends) for fork, end in enumerate(ends)])


def tree_by_ends(low, high, ends):
    """Return the tree of the forks from the one on, up to ahead of the other one, by the last forks they reach."""
    if low == high:
        return ()
    # All forks of the left branch reach less far.
    fork = ends.index(high - 1, low)
    return (tree_by_ends(low, fork, ends), tree_by_ends(fork + 1, high, ends))


def tree_by_reaches(row):
    """Return the tree with what is known to be reaches."""
    return tree_by_ends(0, len(row), [fork + reach for fork, reach in enumerate(row)])


def tree_by(value):
    """Return the tree with some reaches."""
    if not are_reaches(value):
        raise InvalidReaches("the reaches of a tree are needed")
    return tree_by_reaches(value)


def flipped_over(tree):
    """Return what is known to be a tree, flipped."""
    if not tree:
        return ()
    left, right = tree
    return (flipped_over(right), flipped_over(left))


def tree_flipped(tree):
    """Return a tree flipped."""
    need_tree(tree)
    return flipped_over(tree)
