"""Each function of the interface, with arguments that fit, and what is wrong for each of them."""

from eightworlds import (
    chains, choices, errors, exchanges, friezes, gears, listing, measures, polygons, roads, rows, shapes, snakes, turning,
    valued,
)
from tests import helpers
from tests.helpers import FAN, H, P, Q, Z

CUTTING = (errors.InvalidCutting, helpers.WRONG_CUTTINGS)
SIDES = (errors.InvalidSides, helpers.WRONG_SIDES)
MANY_SIDES = (errors.InvalidSides, helpers.wrong_ints(3, 200))
ANY = None
CUT = (errors.InvalidCut, helpers.OTHERS + helpers.INTS + list(helpers.spoiled((0, 2))) + [
    (1, 3), (0, 1), (2, 0), (0, 4), (0, 9), (-5, -3), (0, 2, 3), [0, 2], (False, 2), (0, 2.0),
])
LINE = (errors.InvalidLine, helpers.OTHERS + helpers.INTS + list(helpers.spoiled((1, 4))) + [(4, 1), (1, 1), (0, 6), (-1, 2)])
CORNERS = (errors.InvalidCorners, helpers.wrong_ints(0, 4))
TURN = (errors.InvalidNumber, helpers.wrong_ints(-1000, 1000))
ROW = (errors.InvalidRow, helpers.OTHERS + helpers.INTS + list(helpers.spoiled((3, 1, 2, 2, 1), lengths=False)) + [
    (), (1,), (1, 1), (1,) * 41, (100, 1, 1), (1, 1, -100), [1, 1, 1], (1, 1, True), (1, 1, None), ((1, 1, 1),),
])
PLACE = (errors.InvalidPlace, helpers.wrong_ints(0, 4))
ROAD_VALUE = ((0, 1), (1, 3), (1, 2), (1, 1), (1, 0))
ROAD = (errors.InvalidRoad, helpers.OTHERS + helpers.INTS + list(helpers.spoiled(ROAD_VALUE)) + [
    ROAD_VALUE[1:], ROAD_VALUE[:-1], ROAD_VALUE[::-1], ((0, 1), (1, 0)), ((0, 1), (2, 1), (1, 0)),
])
MARK = (errors.InvalidMark, helpers.OTHERS + helpers.INTS + list(helpers.spoiled((1, 2))) + [(2, 2), (0, 0), (-1, 1)])
FRACTION = (errors.InvalidFraction, helpers.OTHERS + helpers.INTS + list(helpers.spoiled((7, 5))) + [
    (0, 1), (1, 0), (14, 10), (-7, 5), (7, -5), (10 ** 31, 1), (10 ** 31 + 1, 10 ** 31),
])
CHAIN = (errors.InvalidChain, helpers.OTHERS + helpers.INTS + list(helpers.spoiled((2, 3), lengths=False)) + [
    (), (100,), (-100, 2), (2,) * 13, [2, 3], (2, False), (2, None), ((2,),),
])
SHAPE = (errors.InvalidShape, helpers.OTHERS + helpers.INTS + list(helpers.spoiled(("right", "up"), lengths=False)) + [
    ("left",), ("up",) * 61, "up", ["up"], ("up", 1), (("up",),), ("UP",), ("up", ""),
])
VALUES = (errors.InvalidValues, helpers.OTHERS + helpers.INTS + list(helpers.spoiled((2, 3))) + [(0, 1), (1, 1001), [1, 1]])
FACTS = (errors.InvalidFacts, helpers.OTHERS + helpers.INTS + list(helpers.spoiled(((1, 4, 3),), lengths=False)) + [
    ((1, 4, 3),) * 7, ((4, 1, 3),), ((2, 2, 0),), ((1, 4, 1000),), ((1, 4, -1),), ((-1, 4, 1),), [], ((1, 4),),
])
TALLY = (errors.InvalidNumber, helpers.wrong_ints(1, 10 ** 30))

# The function, arguments that fit, and for each argument the error and what is wrong; then what is too much, if so.
CALLS = [
    (polygons.is_cutting, (P,), (ANY,)),
    (polygons.pieces, (P,), (CUTTING,)),
    (polygons.ties, (P,), (CUTTING,)),
    (polygons.counts_at, (P,), (CUTTING,)),
    (polygons.ears, (P,), (CUTTING,)),
    (polygons.do_cross, (5, (0, 2), (1, 3)), (SIDES, (CUT[0], CUT[1][:-11] + [(0, 4), (2, 0)]), (CUT[0], CUT[1][:-11]))),
    (exchanges.comes_for, (P, (0, 2)), (CUTTING, CUT)),
    (exchanges.exchanged, (P, (0, 2)), (CUTTING, CUT)),
    (exchanges.exchanges, (P,), (CUTTING,)),
    (exchanges.fan_way, (P,), (CUTTING,)),
    (turning.turned, (P, 3), (CUTTING, TURN)),
    (turning.mirrored, (P,), (CUTTING,)),
    (turning.plain, (P,), (CUTTING,)),
    (turning.alike, (H, Z), (CUTTING, CUTTING)),
    (turning.own_turns, (P,), (CUTTING,)),
    (listing.cuttings, (5,), (SIDES,), (10,), 9),
    (listing.number_of, (P,), (CUTTING,)),
    (listing.cutting_with, (5, 4), (SIDES, (errors.InvalidNumber, helpers.wrong_ints(0, 4)))),
    (listing.count_cuttings, (5,), (MANY_SIDES,)),
    (listing.count_plain, (5,), (MANY_SIDES,)),
    (listing.count_rest, (9, 5), (
        (errors.InvalidSides, helpers.wrong_ints(3, 10 ** 30)),
        (errors.InvalidPrime, helpers.OTHERS + [-2, 0, 1, 4, 9, 996, 998, 1009, helpers.GREAT_INT, -5]),
    )),
    (rows.are_counts, ((3, 1, 2, 2, 1),), (ANY,)),
    (rows.row_cutting, ((3, 1, 2, 2, 1),), (ROW,)),
    (rows.row_struck, ((3, 1, 2, 2, 1), 1), (ROW, (PLACE[0], PLACE[1] + [0, 2, 3]))),
    (rows.row_bar, ((3, 1, 2, 2, 1),), (ROW,)),
    (rows.is_row_bar, ((2, 2, 2, 2), ()), (ROW, ANY)),
    (friezes.row_number, ((3, 1, 2, 2, 1), 1, 3), (ROW, PLACE, (errors.InvalidNumber, helpers.wrong_ints(0, 60)))),
    (friezes.frieze, (P,), (CUTTING,)),
    (friezes.is_frieze, (friezes.frieze(P),), (ANY,)),
    (friezes.frieze_cutting, (friezes.frieze(Q),), (
        (errors.InvalidFrieze, helpers.OTHERS + helpers.INTS + list(helpers.spoiled(friezes.frieze(Q)))),
    )),
    (friezes.frieze_determinant, (P,), (CUTTING,)),
    (friezes.friezes_with, (5, ((1, 4, 3),)), (SIDES, FACTS), (9, ((1, 4, 3),)), 8),
    (choices.piece_choices, (P, 1, 4), (CUTTING, CORNERS, CORNERS), (helpers.fan(10), 1, 4), 9),
    (choices.count_choices, (P, 1, 4), (CUTTING, CORNERS, CORNERS)),
    (choices.is_choice, (P, 1, 4, ((0, 1, 2), (0, 2, 3))), (CUTTING, CORNERS, CORNERS, ANY)),
    (valued.frieze_by, (P, (2, 3)), (CUTTING, VALUES), (helpers.fan(13), (2,) * 10), 12),
    (valued.fraction_by, (P, (2, 3), 4, 1), (CUTTING, VALUES, CORNERS, CORNERS), (helpers.fan(13), (2,) * 10, 4, 1), 12),
    (valued.is_frieze_by, (P, (2, 3), None), (CUTTING, VALUES, ANY), (helpers.fan(13), (2,) * 10, None), 12),
    (valued.is_whole_by, (P, (2, 3)), (CUTTING, VALUES), (helpers.fan(13), (2,) * 10), 12),
    (roads.road_of, (P,), (CUTTING,)),
    (roads.is_road, (ROAD_VALUE,), (ANY,)),
    (roads.road_cutting, (ROAD_VALUE,), (ROAD,)),
    (roads.middle_of, ((1, 2), (1, 1)), (MARK, MARK)),
    (roads.road_with, (ROAD_VALUE, 1), (ROAD, (errors.InvalidPlace, helpers.wrong_ints(0, 3))),
     (roads.road_of(helpers.fan(40)), 1), 40),
    (roads.road_to, ((7, 5),), (FRACTION,), ((40, 1),), 40),
    (chains.minus_value, ((2, 3),), (CHAIN,)),
    (chains.plus_value, ((2, 3),), (CHAIN,)),
    (chains.minus_chain, ((7, 5),), (FRACTION,), ((202, 201),), 200),
    (chains.plus_chain, ((7, 5),), (FRACTION,)),
    (chains.chain_partner, ((7, 5),), ((FRACTION[0], FRACTION[1] + [(1, 1), (1, 2)]),)),
    (chains.two_ones, ((7, 5),), ((FRACTION[0], FRACTION[1] + [(1, 1), (1, 2)]),), ((39, 1),), 40),
    (gears.gear_product, ((3, 1, 2, 2, 1),), (ROW,)),
    (gears.comes_round, ((3, 1, 2, 2, 1),), (ROW,)),
    (gears.is_threefold, (6, ()), (SIDES, ANY)),
    (gears.threefolds, (6,), (SIDES,), (10,), 9),
    (gears.threefold_counts, (5, ((0, 2), (0, 3))), (SIDES, (
        errors.InvalidThreefold, helpers.OTHERS + helpers.INTS + list(helpers.spoiled(((0, 2), (0, 3)))),
    ))),
    (gears.threefold_of, ((3, 1, 2, 2, 1),), (ROW,), ((1,) * 10,), 9),
    (gears.rows_round, (3, 1), (
        (errors.InvalidNumber, helpers.wrong_ints(3, 8)),
        (errors.InvalidSign, helpers.OTHERS + [0, 2, -2, helpers.GREAT_INT]),
    )),
    (measures.measure_of, (3,), ((errors.InvalidNumber, helpers.wrong_ints(1, 60)),)),
    (measures.measured, ((7, 5),), ((FRACTION[0], FRACTION[1] + [(201, 1), (1, 2)]),)),
    (measures.measured_by, ((2, 3),), ((CHAIN[0], CHAIN[1] + [(1,), (2, 21), (-2,), (0, 2)]),)),
    (snakes.crossed, (Z, (1, 4)), (CUTTING, LINE)),
    (snakes.snake, (Z, (1, 4)), (CUTTING, LINE)),
    (snakes.shape_of, (FAN, (1, 5)), (CUTTING, LINE)),
    (snakes.rails, (Z, (1, 4)), (CUTTING, LINE)),
    (shapes.is_shape, (("up",),), (ANY,)),
    (shapes.tally, (("up",),), (SHAPE,)),
    (shapes.shape_by, (5, 2), (TALLY, TALLY), (63, 1), 60),
    (shapes.levels_by, (("up",),), (SHAPE,)),
    (shapes.cutting_by, (("up", "right"),), (SHAPE,), (("up",) * 37,), 36),
]
