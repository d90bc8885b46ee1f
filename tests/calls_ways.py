"""The functions over passes, ways, fields, rounds and loose cuttings, as in the table of `calls`."""

from eightworlds import atonce, errors, fewest, layers, loose, loosecounts, passes, shared, sieving, ways
from eightworlds.swaps import swaps_for
from tests import helpers
from tests.calls import ANY, CUT, CUTTING, SIDES, TURN
from tests.calls_lines import WAY as SHORT_WAY
from tests.calls_trees import POINTS, SWAPS
from tests.helpers import H, P, Z, fan

INDEX = (errors.InvalidIndex, helpers.wrong_ints(0, 0))
SIX = swaps_for(6, (0, 1, 0, 1, 2))
LONG_ONES = [((0, 2), (1, 3)) * 16, ((0, 2), (1, 3)) * 15 + ((0, 2),)]
WAY = (errors.InvalidWay, [value for value in SHORT_WAY[1] if value not in LONG_ONES] + [
    ((0, 2), (1, 3)) * 41, ((0, 2), (1, 3)) * 40 + ((0, 2),), ((1, 3), (0, 2)) * 40,
])
CORNER = (errors.InvalidCorner, helpers.wrong_ints(0, 4))
FIELD = (errors.InvalidField, helpers.OTHERS + helpers.INTS + [
    value for value in helpers.spoiled((0, 2, 3, 4)) if value not in ((0, 2, 3), (2, 3, 4))
] + [(2, 3, 4), (0, 1, 3), (0, 2, 5), (0, 2), (0, 3, 2), (2, 3, 0), [0, 2, 3], (0, 2, 2, 3), (-1, 0, 2), (), ((0, 2, 3),)])
CUTS = (errors.InvalidCuts, helpers.OTHERS + helpers.INTS + [
    value for value in helpers.spoiled(((0, 2), (3, 5))) if value not in (((0, 2),), ((3, 5),))
] + [(), ((0, 2), (2, 5)), ((3, 5), (0, 2)), [(0, 2)], ((0, 3),), ((0, 1),), (0, 2), ((0, 2), (3, 5), (3, 5))])
LOOSE = (errors.InvalidLoose, helpers.OTHERS + helpers.INTS + [
    value for value in helpers.spoiled((6, ((0, 3),))) if value != (6, ())
] + [
    (2, ()), (41, ()), (6, ((0, 1),)), (6, ((0, 5),)), (6, ((0, 3), (1, 4))), (6, ((0, 3), (0, 2))), (6, ((0, 2), (0, 2))),
    (6, [(0, 3)]), (6, ([0, 3],)), (6, ((3, 0),)), (6, ((False, 3),)), [6, ()], (6,), (6, (), ()), (3, ((0, 2),)),
])
NEW_CUT = (errors.InvalidCut, CUT[1][:-11] + [(0, 3), (0, 1), (2, 0), (0, 5), (0, 6), (-1, 2), (0, 2, 3), [0, 2], (False, 2)])
OWN_CUT = (errors.InvalidCut, CUT[1][:-11] + [(0, 2), (1, 4), (0, 1), (3, 0), (0, 6), (0, 3, 3), [0, 3], (False, 3)])
MANY_SIDES = (errors.InvalidSides, helpers.wrong_ints(3, 200))
SOME_SIDES = (errors.InvalidSides, helpers.wrong_ints(3, 60))
MANY = (errors.InvalidNumber, helpers.OTHERS + [number for number in helpers.INTS if number < 0] + [(0,), [1], "0"])
COUNTS = (errors.InvalidCounts, helpers.OTHERS + helpers.INTS + [
    value for value in helpers.spoiled((0, 2), lengths=False) if value != (0, 0)
] + [(201,), (-1, 2), (0,) * 39, (0, True), [0, 2], (0, None), ((0, 2),)])
WORTHS = (errors.InvalidWorths, helpers.OTHERS + helpers.INTS + list(helpers.spoiled((3, -4), lengths=False)) + [
    (), (10 ** 6 + 1,), (1, -10 ** 6 - 1), (1,) * 39, [1], (True,), (1, None), ((1,),),
])

WAY_CALLS = [
    (passes.passed, (3, ((0, 1), (1, 2)), 0), (POINTS, SWAPS, INDEX)),
    (passes.passed_back, (3, ((0, 1), (1, 2)), 0), (POINTS, SWAPS, INDEX)),
    (passes.passes_to, (3, ((0, 1), (1, 2)), ((0, 2), (0, 1))), (POINTS, SWAPS, SWAPS), (6, SIX, SIX), 5),
    (ways.behind_way, (P, ((0, 2), (0, 3))), (CUTTING, WAY)),
    (ways.way_back, (P, ((0, 2), (0, 3))), (CUTTING, WAY)),
    (ways.is_way_to, (H, Z, ((0, 4), (2, 4))), (CUTTING, CUTTING, ANY)),
    (ways.far_from_fan, (P, 1), (CUTTING, CORNER)),
    (ways.way_by_fan, (P, fan(5, 3), 1), (CUTTING, CUTTING, CORNER)),
    (shared.shared_cuts, (H, Z), (CUTTING, CUTTING)),
    (shared.shared_fields, (H, Z), (CUTTING, CUTTING)),
    (shared.within_field, (P, (0, 2, 3, 4)), (CUTTING, FIELD)),
    (fewest.fewest_exchanges, (H, Z), (CUTTING, CUTTING), (fan(9), fan(9, 1)), 8),
    (fewest.least_way, (H, Z), (CUTTING, CUTTING), (fan(9), fan(9, 1)), 8),
    (fewest.is_least_way, (H, Z, ((0, 4), (2, 4))), (CUTTING, CUTTING, ANY), (fan(9), fan(9, 1), ()), 8),
    (fewest.count_least_ways, (H, Z), (CUTTING, CUTTING), (fan(9), fan(9, 1)), 8),
    (fewest.on_least_ways, (H, Z), (CUTTING, CUTTING), (fan(9), fan(9, 1)), 8),
    (layers.layers, (P,), (CUTTING,), (fan(9),), 8),
    (layers.farthest, (P,), (CUTTING,), (fan(9),), 8),
    (layers.widest, (5,), ((errors.InvalidSides, helpers.wrong_ints(3, 7, 8, 40)),)),
    (atonce.can_at_once, (Z, ((0, 2), (3, 5))), (CUTTING, ANY)),
    (atonce.exchanged_at_once, (Z, ((0, 2), (3, 5))), (CUTTING, CUTS)),
    (atonce.count_at_once, (Z,), (CUTTING,)),
    (atonce.most_at_once, (Z,), (CUTTING,)),
    (atonce.fewest_rounds, (P, fan(5, 3)), (CUTTING, CUTTING), (fan(8), fan(8)), 7),
    (loose.is_loose, (P,), (ANY,)),
    (loose.plates, ((6, ((0, 3),)),), (LOOSE,)),
    (loose.plate_counts, ((6, ((0, 3),)),), (LOOSE,)),
    (loose.cut_in, ((6, ((0, 3),)), (0, 2)), (LOOSE, NEW_CUT)),
    (loose.cut_out, ((6, ((0, 3),)), (0, 3)), (LOOSE, OWN_CUT)),
    (loose.slid, ((6, ((0, 3),)), (0, 3)), (LOOSE, OWN_CUT)),
    (loose.slid_back, ((6, ((0, 3),)), (0, 3)), (LOOSE, OWN_CUT)),
    (loose.lies_in, ((6, ()), (6, ((0, 3),))), (LOOSE, LOOSE)),
    (loose.common_cuts, (H, (6, ((0, 2), (2, 5)))), (LOOSE, LOOSE)),
    (loose.joined_cuts, ((6, ((0, 3),)), (6, ((0, 2),))), (LOOSE, LOOSE)),
    (loose.count_full, ((6, ((0, 3),)),), (LOOSE,)),
    (loose.full_cuttings, ((6, ((0, 3),)),), (LOOSE,), ((10, ((0, 3),)),), 9),
    (loose.face_counts, ((6, ((0, 3),)),), (LOOSE,)),
    (loosecounts.count_loose, (6, 2), (MANY_SIDES, MANY)),
    (loosecounts.turned_counts, (6,), (MANY_SIDES,)),
    (loosecounts.count_with_plates, (6, (2, 1)), (MANY_SIDES, COUNTS)),
    (loosecounts.loose_cuttings, (5, 1), (MANY_SIDES, MANY), (9, 0), 8),
    (loosecounts.plate_sums, ((1, 1, 1),), (WORTHS,)),
    (sieving.count_still, (6, 2, 3), (SOME_SIDES, MANY, TURN)),
    (sieving.count_unlike, (6, 2), (SOME_SIDES, MANY)),
    (sieving.loose_turned, ((6, ((0, 3),)), 1), (LOOSE, TURN)),
    (sieving.loose_plain, ((6, ((0, 3),)),), (LOOSE,)),
]
