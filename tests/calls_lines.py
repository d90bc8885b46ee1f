"""The functions over lines, pairings, lengths, tables, sums, names and leads, as in the table of `calls`."""

from eightworlds import errors, leads, lengths, names, pairings, sums, tables
from tests import helpers
from tests.calls import ANY, CUT, CUTTING, LINE
from tests.helpers import P, Z

ONES = ((1, 1),) * 9
GREAT_ONES = ((helpers.GREAT_INT, 1), (1, helpers.GREAT_INT))
NINE = ((0, 2), (0, 1), (4, 2), (2, 4), (-1, 2), (1, -2), (1, 0), [1, 1], (1, 2, 3), (True, 1), (1, True), 1, None, "1")
LENGTHS = (errors.InvalidLengths, helpers.OTHERS + helpers.INTS + [
    some for some in list(helpers.spoiled(((1, 1),) * 7))[:60]
    if not isinstance(some, tuple) or not any(great in some for great in GREAT_ONES)
] + [
    ((1, 1),) * 6, ((1, 1),) * 8, [(1, 1)] * 7, (), *[((1, 1),) * at + (one,) + ((1, 1),) * (6 - at) for at in (0, 3, 6) for one in NINE],
])
FLAT = ((0, 0), (1, 0)), ((0, 1), (1, 1)), ((0, 2), (1, 2)), ((0, 3), (1, 3))
LOW = pairings.low_pairing(Z, (1, 4))
PAIRING = (errors.InvalidPairing, helpers.OTHERS + helpers.INTS + list(helpers.spoiled(FLAT)) + [
    (), FLAT[::-1], FLAT[:1] * 4, FLAT[:3], LOW[:2] + FLAT[2:], FLAT + FLAT[-1:], (((0, 0), (0, 1)),) + FLAT[1:],
    FLAT[:3] + (((0, 4), (1, 4)),),
])
TILE = (errors.InvalidTile, helpers.wrong_ints(0, 2) + [(0,), None, True])
LOT = (errors.InvalidLot, helpers.OTHERS + helpers.INTS + list(helpers.spoiled((0, 2), lengths=False)) + [
    (1,), (0, 1), (1, 2), (2, 0), (0, 0), (0, 2, 2), (3,), (-1,), (0, 1, 2, 3), [0], 0,
])
SMALL_SUM = (((-1, 0, 2, 0, 0, 0, 1), 5), ((0, 0, 0, 0, 0, 0, 0), -7))
SUM = (errors.InvalidSum, helpers.OTHERS + helpers.INTS + list(helpers.spoiled(SMALL_SUM, lengths=False)) + [
    SMALL_SUM[::-1], SMALL_SUM[:1] * 2, (((0,) * 7, 0),), (((61,) + (0,) * 6, 1),), (((0,) * 6 + (-61,), 1),),
    (((0,) * 7, 10 ** 30 + 1),), (((0,) * 7, -10 ** 30 - 1),), (((0,) * 6, 1),), (((0,) * 8, 1),), ((0,) * 7, 1),
    tuple(((at, 0, 0, 0, 0, 0, other), 1) for at in range(21) for other in range(20)), (((0,) * 7, 1), ((0,) * 7, 2)),
    (([0] * 7, 1),), [((0,) * 7, 1)], (((0,) * 7, True),), (((False,) + (0,) * 6, 1),),
])
WAY = (errors.InvalidWay, helpers.OTHERS + helpers.INTS + list(helpers.spoiled(((0, 2), (0, 3)), lengths=False)) + [
    ((1, 3),), ((0, 2), (0, 2)), ((0, 2), (1, 3), (0, 2), (0, 2)), [(0, 2)], ((0, 2), [0, 3]), ((0, 2), (1, 3)) * 16,
    ((0, 2), (1, 3)) * 15 + ((0, 2),), (0, 2), ((2, 0),), ((0, 2), (0, 4)),
])
FOUR = (errors.InvalidCorners, helpers.OTHERS + helpers.INTS + list(helpers.spoiled((0, 1, 2, 4))) + [
    (0, 1, 2), (0, 1, 2, 5), (-1, 1, 2, 4), (0, 0, 2, 4), (0, 2, 1, 4), (4, 2, 1, 0), [0, 1, 2, 4], (0, 1, 2, 3, 4), (0, 1, 4, 4),
])
ROW = (errors.InvalidRow, helpers.OTHERS + helpers.INTS + list(helpers.spoiled((1, -2))) + [
    (0, 31), (-31, 0), (1,), (), (0, 0, 0), [0, 0], (0, False), (0, None),
])
LINE_OF_FIVE = (errors.InvalidLine, LINE[1] + [(2, 5), (0, 5)])
FAR = helpers.zigzag(16)

LINE_CALLS = [
    (pairings.is_pairing, (Z, (1, 4), FLAT), (CUTTING, LINE, ANY)),
    (pairings.count_pairings, (Z, (1, 4)), (CUTTING, LINE)),
    (pairings.low_pairing, (Z, (1, 4)), (CUTTING, LINE)),
    (pairings.pairings, (Z, (1, 4)), (CUTTING, LINE), (FAR, (0, 8)), 12),
    (pairings.flippable, (Z, (1, 4), FLAT), (CUTTING, LINE, PAIRING)),
    (pairings.flipped, (Z, (1, 4), FLAT, 1), (CUTTING, LINE, PAIRING, TILE)),
    (pairings.lot_of, (Z, (1, 4), FLAT), (CUTTING, LINE, PAIRING)),
    (pairings.pairing_by, (Z, (1, 4), (0, 2)), (CUTTING, LINE, LOT)),
    (pairings.met_pairing, (Z, (1, 4), FLAT, LOW), (CUTTING, LINE, PAIRING, PAIRING)),
    (pairings.joined_pairing, (Z, (1, 4), FLAT, LOW), (CUTTING, LINE, PAIRING, PAIRING)),
    (pairings.level_counts, (Z, (1, 4)), (CUTTING, LINE)),
    (lengths.are_lengths, (Z, ONES), (CUTTING, ANY)),
    (lengths.length, (P, ONES[:7], (1, 4)), (CUTTING, LENGTHS, LINE_OF_FIVE)),
    (lengths.all_lengths, (P, ONES[:7]), (CUTTING, LENGTHS), (helpers.fan(13), ((1, 2),) * 23), 12),
    (lengths.lengths_behind, (P, ONES[:7], (0, 2)), (CUTTING, LENGTHS, CUT)),
    (tables.table, (P,), (CUTTING,)),
    (tables.cutting_with_table, (tables.table(P),), (ANY,)),
    (tables.table_turned, (P, (0, 2)), (CUTTING, CUT)),
    (tables.table_behind, (P, ((0, 2), (0, 3))), (CUTTING, WAY)),
    (tables.order_behind, (P, ((0, 2), (0, 3))), (CUTTING, WAY)),
    (sums.is_sum, (P, SMALL_SUM), (CUTTING, ANY)),
    (sums.added, (P, SMALL_SUM, SMALL_SUM), (CUTTING, SUM, SUM)),
    (sums.multiplied, (P, SMALL_SUM, SMALL_SUM), (CUTTING, SUM, SUM)),
    (sums.value_by, (P, SMALL_SUM, ((2, 3),) * 7), (CUTTING, SUM, LENGTHS)),
    (names.name, (Z, (1, 4)), (CUTTING, LINE), (FAR, (0, 7)), 10),
    (names.line_named, (P, names.name(P, (1, 4))), (CUTTING, ANY), (helpers.fan(13), ()), 12),
    (names.crossing_sums, (P, (0, 1, 2, 4)), (CUTTING, FOUR), (helpers.fan(11), (0, 1, 2, 4)), 10),
    (names.exchange_sum, (P, (0, 2)), (CUTTING, CUT)),
    (names.names_behind, (P, ((0, 2), (0, 3))), (CUTTING, WAY), (helpers.fan(10), ((0, 2),)), 9),
    (leads.lead, (Z, (1, 4)), (CUTTING, LINE)),
    (leads.bars, (Z, (1, 4)), (CUTTING, LINE)),
    (leads.line_with_lead, (P, (1, -1)), (CUTTING, ROW)),
    (leads.line_with_bars, (P, (1, 1)), (CUTTING, ROW)),
    (leads.lead_parts, (P, (2, -3)), (CUTTING, ROW), (helpers.fan(8), (1,) * 5), 7),
]
