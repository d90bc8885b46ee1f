"""Mountains and heights of trees, and votes."""

from math import comb

from eightworlds.basics import are_between, is_between, need_number
from eightworlds.errors import InvalidHeights, InvalidMountain, InvalidNumber, InvalidVotes
from eightworlds.treeforms import MOST_FORKS, need_tree

MOST_VOTES = 60


def mountain_over(tree):
    """Return the mountain of what is known to be a tree."""
    if not tree:
        return ""
    left, right = tree
    return "u" + mountain_over(left) + "d" + mountain_over(right)


def mountain(tree):
    """Return the mountain of a tree."""
    need_tree(tree)
    return mountain_over(tree)


def heights_along(signs):
    """Return the tuple of heights that begins with 0, and goes up for each u, and down for each other sign."""
    found = [0]
    for sign in signs:
        found.append(found[-1] + (1 if sign == "u" else -1))
    return tuple(found)


def is_mountain(value):
    """Return whether any value is the mountain of a tree."""
    if not isinstance(value, str) or len(value) > 2 * MOST_FORKS or not all([sign in "ud" for sign in value]):
        return False
    found = heights_along(value)
    return min(found) == 0 and found[-1] == 0


def tree_by_mountain(signs):
    """Return the tree with what is known to be a mountain."""
    # Read backward, all that belongs to a fork is there when its first sign comes.
    waiting = [()]
    for sign in signs[::-1]:
        if sign == "d":
            waiting.append(())
        else:
            left = waiting.pop()
            right = waiting.pop()
            waiting.append((left, right))
    return waiting[0]


def tree_of_mountain(value):
    """Return the tree with a mountain."""
    if not is_mountain(value):
        raise InvalidMountain("the mountain of a tree is needed")
    return tree_by_mountain(value)


def heights(tree):
    """Return the heights of a tree."""
    return heights_along(mountain(tree))


def tree_of_heights(value):
    """Return the tree with some heights."""
    if not are_between(value, 0, MOST_FORKS) or not 1 <= len(value) <= 2 * MOST_FORKS + 1:
        raise InvalidHeights("the heights of a tree are needed")
    signs = "".join(["u" if one < other else "d" for one, other in zip(value, value[1:])])
    if value != heights_along(signs) or value[-1] != 0:
        raise InvalidHeights("heights that go up or down by one are needed, from nought to nought")
    return tree_by_mountain(signs)


def peaks(tree):
    """Return how many peaks the mountain of a tree has."""
    return mountain(tree).count("ud")


def touches(tree):
    """Return how many of the heights of a tree are nought, the first one aside."""
    return heights(tree)[1:].count(0)


def need_votes(mine, yours):
    """Raise InvalidNumber for what are no numbers of votes for the one and, no more, for the other one."""
    if not is_between(mine, 0, MOST_VOTES) or not is_between(yours, 0, mine):
        raise InvalidNumber(f"two integers from 0 to {MOST_VOTES} are needed, the latter one no greater")


def votes_behind(mine, yours, lead):
    """Return in how many ways so many votes can follow, if the one is ahead by a lead, and never comes to be behind."""
    if mine < 0:
        return 0
    # Each other way comes, turned about up to where the one is first behind, of a way from behind.
    lost = comb(mine + yours, yours - lead - 1) if lead < yours else 0
    return comb(mine + yours, yours) - lost


def count_votes(mine, yours):
    """Return how many votes there are for so many of the one and of the other one."""
    need_votes(mine, yours)
    return votes_behind(mine, yours, 0)


def votes_with(mine, yours, number):
    """Return the votes for so many of the one and of the other one with a number."""
    need_votes(mine, yours)
    need_number(number, 0, votes_behind(mine, yours, 0) - 1)
    signs = []
    lead = 0
    while mine + yours > 0:
        ahead = votes_behind(mine - 1, yours, lead + 1)
        if number < ahead:
            signs.append("A")
            mine, lead = mine - 1, lead + 1
        else:
            signs.append("B")
            number, yours, lead = number - ahead, yours - 1, lead - 1
    return "".join(signs)


def are_votes(value):
    """Return whether any value is votes of at most so many for each as there can be."""
    if not isinstance(value, str) or not all([sign in "AB" for sign in value]) or value.count("A") > MOST_VOTES:
        return False
    leads = heights_along(["u" if sign == "A" else "d" for sign in value])
    return min(leads) == 0


def votes_number(value):
    """Return the number of votes."""
    if not are_votes(value):
        raise InvalidVotes(f"votes of at most {MOST_VOTES} for each are needed")
    mine, yours, lead, number = value.count("A"), value.count("B"), 0, 0
    for sign in value:
        if sign == "A":
            mine, lead = mine - 1, lead + 1
        else:
            number = number + votes_behind(mine - 1, yours, lead + 1)
            yours, lead = yours - 1, lead - 1
    return number
