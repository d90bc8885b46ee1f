"""The functions over trees, votes, partings and swaps, as in the table of `calls`."""

from eightworlds import (
    errors, overs, partingcounts, partings, swaps, treechains, treeforms, treenumbers, treeorder, treerows
)
from tests import helpers
from tests.calls import ANY, CUT, CUTTING
from tests.helpers import P, fan

L, C = ((), ()), (((), ()), ())
S, R = ((L, L), ()), (L, ((), L))


def comb_of(forks):
    """The least tree, perhaps with too many forks."""
    tree = ()
    for _ in range(forks):
        tree = (tree, ())
    return tree


def branching(depth):
    """A tree in which all branches are alike, with very many forks, but few tuples."""
    tree = ()
    for _ in range(depth):
        tree = (tree, tree)
    return tree


NO_TREES = [value for value in helpers.OTHERS if value != ((), ())] + helpers.INTS + [
    ((),), ((), (), ()), (((), ()),), [(), ()], ((), []), ([], ()), (((), ()), None), (0, 0), (((), 1), ()), ((), "ud"), ("", ""),
    comb_of(25), comb_of(29), branching(5), (comb_of(12), comb_of(12)),
]
TREE = (errors.InvalidTree, NO_TREES)
FORKS = (errors.InvalidNumber, helpers.wrong_ints(0, 24))
REACHES = (errors.InvalidReaches, helpers.OTHERS + helpers.INTS + list(helpers.spoiled((0, 1, 0, 0), lengths=False)) + [
    (1,), (0, 1), (-1, 0), (1, 1, 0), (2, 0), (0,) * 25, (24,) + (0,) * 24, [0], (0, 2, 0), (1, 1, 0, 0), (2, 1, 1, 0), (0, False),
])
SIGNS = [value for value in helpers.OTHERS if value != ""] + helpers.INTS + [("u", "d"), ["ud"], b"ud"]
MOUNTAIN = (errors.InvalidMountain, SIGNS + [
    "u", "d", "du", "uu", "ud ", " ud", "UD", "udd", "uud", "uddu", "u" * 25 + "d" * 25, "ud" * 25, "ud" * 500, "u\nd", "AB", "ux",
])
HEIGHTS = (errors.InvalidHeights, helpers.OTHERS + helpers.INTS + list(helpers.spoiled((0, 1, 2, 1, 0), lengths=False)) + [
    (), (1,), (0, 1), (1, 0), (0, -1, 0), (0, 2, 0), (0, 0), (0, 1, 1, 0), (0, 1, 0, 1), (0, 1) * 24 + (0, 1, 0), [0], (False,),
    tuple(range(26)) + tuple(range(24, -1, -1)), (0, 1, 3, 2, 1, 0), (0, 1, 0, -1, 0),
])
VOTES = (errors.InvalidVotes, SIGNS + [
    "B", "ABB", "BA", "AC", "ab", "AB ", "A" * 61, "A" * 500 + "B" * 500, "A" * 61 + "B" * 2, "A\nB", "ABBA", "ud",
])
MINE = (errors.InvalidNumber, helpers.wrong_ints(0, 60))
# One of what is almost a parting is one again, of fewer points.
NO_PARTINGS = helpers.OTHERS + helpers.INTS + [value for value in helpers.spoiled(((0, 2), (1,))) if value != ((0,), (1,))] + [
    (), ((),), ((0,), ()), ((0, 2), (1, 3)), ((0, 3), (1, 2, 4)), ((1,), (0,)), ((0, 1), (1, 2)), ((1, 2),), ((0,), (2,)), ((1, 0),),
    ((0, 0),), ((0,), (0,)), [(0,)], ([0],), ((False,),), tuple((point,) for point in range(39)), (tuple(range(39)),), (0,),
    ((0, 2), (1,), (3,), (3,)), ((-1, 0),),
]
PARTING = (errors.InvalidParting, NO_PARTINGS)
POINTS = (errors.InvalidPoints, helpers.wrong_ints(1, 38))
MANY_POINTS = (errors.InvalidPoints, helpers.wrong_ints(1, 1000))
TURN = (errors.InvalidNumber, helpers.wrong_ints(-1000, 1000))
SIZES = (errors.InvalidBlocks, helpers.OTHERS + helpers.INTS + list(helpers.spoiled((2, 2), lengths=False)) + [
    (), (1, 2), (2, 2, 0), (5, -1), (1,) * 91, (4, 0), (1, 1, 1), [4], (True, 3), (4, 1), (2, 2, 1),
])
SWAPS = (errors.InvalidSwaps, helpers.OTHERS + helpers.INTS + list(helpers.spoiled(((0, 1), (1, 2)))) + [
    (), ((1, 2), (0, 1)), ((0, 1), (0, 1)), ((1, 0), (1, 2)), ((0, 1), (1, 3)), ((-1, 0), (0, 1)), [(0, 1), (1, 2)], ((0, 1), (0, 2)),
    ((0, 1), (1, 2), (0, 1)), ((0, 1),), ((0, 0), (1, 2)),
])
STAIR_VALUE = (((0,), (1,), (2,)), ((0,), (1, 2)), ((0, 1, 2),))
STAIR = (errors.InvalidStair, helpers.OTHERS + helpers.INTS + list(helpers.spoiled(STAIR_VALUE)) + [
    (), STAIR_VALUE[::-1], STAIR_VALUE[:2], STAIR_VALUE[1:], (STAIR_VALUE[0],) * 3, (STAIR_VALUE[0], STAIR_VALUE[2], STAIR_VALUE[2]),
    STAIR_VALUE + STAIR_VALUE[2:], (((0,), (1,)), ((0, 1, 2),)), (((0,), (1,), (2,), (3,)), ((0, 1), (2,), (3,)), ((0,), (1, 2, 3)), ((0, 1, 2, 3),)),
    (((0,),), ((0,),)), (((0, 1),), ((0, 1),)), (((0,), (1,)), ((0,), (1,))),
])
PARKING = (errors.InvalidParking, helpers.OTHERS + helpers.INTS + list(helpers.spoiled((0, 1))) + [
    (), (1, 1), (0, 2), (-1, 0), (0,), (0, 0, 0), [0, 0], (0, False), (2, 0), (1, 2),
])
SEVEN, EIGHT = comb_of(7), comb_of(8)
NINE = (tuple(range(9)),)

TREE_CALLS = [
    (treeforms.is_tree, (S,), (ANY,)),
    (treeforms.forks_of, (S,), (TREE,)),
    (treeforms.tree_of, (P,), (CUTTING,), (fan(27),), 26),
    (treeforms.tree_cutting, (S,), ((TREE[0], TREE[1] + [()]),)),
    (treeforms.reaches, (S,), (TREE,)),
    (treeforms.tree_by, ((0, 2, 1, 0),), (REACHES,)),
    (treeforms.tree_flipped, (S,), (TREE,)),
    (treerows.mountain, (S,), (TREE,)),
    (treerows.tree_of_mountain, ("uudd",), (MOUNTAIN,)),
    (treerows.heights, (S,), (TREE,)),
    (treerows.tree_of_heights, ((0, 1, 0),), (HEIGHTS,)),
    (treerows.peaks, (S,), (TREE,)),
    (treerows.touches, (S,), (TREE,)),
    (treerows.count_votes, (7, 3), (MINE, MINE)),
    (treerows.votes_with, (3, 1, 2), (MINE, MINE, (errors.InvalidNumber, helpers.wrong_ints(0, 2)))),
    (treerows.votes_number, ("ABAA",), (VOTES,)),
    (treenumbers.tree_number, (S,), (TREE,)),
    (treenumbers.tree_with, (4, 13), (FORKS, (errors.InvalidNumber, helpers.wrong_ints(0, 13)))),
    (treenumbers.count_trees, (4,), (FORKS,)),
    (treenumbers.count_peaks, (4, 2), (FORKS, FORKS)),
    (treeorder.turnable, (S,), (TREE,)),
    (treeorder.fork_turned, (S, 3), (TREE, (errors.InvalidFork, helpers.wrong_ints(0, 3) + [0, 2]))),
    (treeorder.is_below, (S, R), (TREE, TREE)),
    (treeorder.meet, (S, R), (TREE, TREE)),
    (treeorder.join, (S, R), (TREE, TREE)),
    (treeorder.way_up, (S, R), (TREE, TREE)),
    (treeorder.turned_fork, (P, (0, 2)), (CUTTING, CUT), (fan(27), (0, 2)), 26),
    (treechains.trees_between, (S, R), (TREE, TREE), (EIGHT, EIGHT), 7),
    (treechains.longest_up, (S, R), (TREE, TREE), (EIGHT, EIGHT), 7),
    (treechains.fewest_up, (S, R), (TREE, TREE), (EIGHT, EIGHT), 7),
    (treechains.count_ways, (S, R), (TREE, TREE), (EIGHT, EIGHT), 7),
    (treechains.count_below, (4,), (FORKS,)),
    (treechains.least_tree, (4,), (FORKS,)),
    (treechains.greatest_tree, (4,), (FORKS,)),
    (partings.is_parting, (((0, 2), (1,)),), (ANY,)),
    (partings.partings, (4,), (POINTS,), (9,), 8),
    (partings.is_finer, (((0, 2), (1,)), ((0,), (1, 2))), (PARTING, PARTING)),
    (partings.meet_of, (((0, 2), (1,)), ((0,), (1, 2))), (PARTING, PARTING)),
    (partings.join_of, (((0, 2), (1,)), ((0,), (1, 2))), (PARTING, PARTING)),
    (partings.partings_between, (((0, 2), (1,)), ((0, 1, 2),)), (PARTING, PARTING), (NINE, NINE), 8),
    (partings.signed_number, (((0, 2), (1,)), ((0, 1, 2),)), (PARTING, PARTING)),
    (overs.over, (((0, 2), (1,)),), (PARTING,)),
    (overs.under, (((0, 2), (1,)),), (PARTING,)),
    (overs.turned_points, (((0, 2), (1,)), 2), (PARTING, TURN)),
    (overs.mirrored_points, (((0, 1), (2,)),), (PARTING,)),
    (overs.parting_of, (P,), (CUTTING,)),
    (overs.parting_cutting, (((0, 2), (1,)),), (PARTING,)),
    (overs.by_least, (P,), (CUTTING,)),
    (overs.moved_point, (P, (0, 2)), (CUTTING, CUT)),
    (partingcounts.count_partings, (4,), (MANY_POINTS,)),
    (partingcounts.count_blocks, (4, 2), (MANY_POINTS, (errors.InvalidNumber, helpers.wrong_ints(1, 4)))),
    (partingcounts.count_sized, (4, (1, 3)), (MANY_POINTS, SIZES)),
    (partingcounts.count_rising, (4, 2), (MANY_POINTS, (errors.InvalidNumber, helpers.wrong_ints(1, 1000)))),
    (partingcounts.count_great, (4,), (MANY_POINTS,)),
    (partingcounts.parting_number, (((0, 2), (1,)),), (PARTING,)),
    (partingcounts.parting_with, (4, 13), (POINTS, (errors.InvalidNumber, helpers.wrong_ints(0, 13)))),
    (swaps.are_great, (3, ((0, 1), (1, 2))), (POINTS, ANY)),
    (swaps.great_swaps, (4,), (POINTS,), (6,), 5),
    (swaps.stair_of, (3, ((0, 1), (1, 2))), (POINTS, SWAPS)),
    (swaps.swaps_of, (STAIR_VALUE,), (STAIR,)),
    (swaps.parking_of, (3, ((0, 1), (1, 2))), (POINTS, SWAPS)),
    (swaps.swaps_for, (3, (0, 1)), (POINTS, PARKING)),
]
