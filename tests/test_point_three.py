"""Point 3, sentence by sentence, for all cuttings of 3 to 6 sides, and what goes with these."""

from itertools import combinations, product
from math import comb, factorial, gcd
from unittest import TestCase

from eightworlds import (
    atonce, choices, chains, exchanges, fewest, friezes, gears, leads, lengths, listing, loose, loosecounts, measures, names, overs,
    pairings, partingcounts, partings, passes, polygons, reaches, roads, rows, shapes, shared, snakes, states, sums, swaps, tables,
    treechains, treeforms, treenumbers, treeorder, treerows, turning, valued, ways,
)
from eightworlds.worldbenches import Bench
from tests.helpers import LITTLE, every_cutting, fan
from tests.slow_states import every_step, states_of
from tests.test_lengths import some_lengths

ALL = {sides: every_cutting(sides) for sides in range(3, 7)}
EXCHANGES = [(cutting, cut) for cutting in LITTLE for cut in cutting[1]]
LINES = [(cutting, line) for cutting in LITTLE for line in combinations(range(cutting[0]), 2)]
PAIRS = [(one, other) for sides in ALL for one in ALL[sides] for other in ALL[sides]]
LOOSE = [one for sides in ALL for many in range(sides - 2) for one in loosecounts.loose_cuttings(sides, many)]
FRACTIONS = [(top, below) for top in range(2, 14) for below in range(1, top) if gcd(top, below) == 1]


def is_struck_to_ones(row):
    """Whether some striking of a row leads to three ones."""
    if len(row) == 3:
        return row == (1, 1, 1)
    return any(is_struck_to_ones(rows.row_struck(row, place)) for place, item in enumerate(row) if item == 1)


def many_rows():
    """Rows of 3 to 6 small integers."""
    for many in range(3, 7):
        yield from product(range(0 if many < 6 else 1, 5), repeat=many)


class Cuttings(TestCase):
    def test_pieces_and_exchanges(self):
        for cutting in LITTLE:
            self.assertEqual(len(polygons.pieces(cutting)), cutting[0] - 2)
        for cutting, cut in EXCHANGES:
            self.assertEqual(sum(set(cut) <= set(piece) for piece in polygons.pieces(cutting)), 2)
            behind = exchanges.exchanged(cutting, cut)
            self.assertIs(polygons.is_cutting(behind), True)
            self.assertEqual(exchanges.exchanged(behind, exchanges.comes_for(cutting, cut)), cutting)

    def test_alike(self):
        for one, other in PAIRS:
            self.assertEqual(turning.alike(one, other), turning.plain(one) == turning.plain(other))
            self.assertEqual(ways.behind_way(one, ways.way_by_fan(one, other, 0)), other)

    def test_rows_of_counts(self):
        known = {polygons.counts_at(cutting): cutting for cutting in LITTLE}
        self.assertEqual(len(known), len(LITTLE))
        for row in many_rows():
            self.assertEqual(rows.are_counts(row), is_struck_to_ones(row))
            self.assertEqual(rows.row_cutting(row), known.get(row))
            self.assertEqual(rows.row_cutting(row) is None, rows.row_bar(row) is not None)

    def test_friezes(self):
        for cutting in LITTLE:
            told = friezes.frieze(cutting)
            for i, j, k, l in combinations(range(cutting[0]), 4):
                self.assertEqual(told[i][k] * told[j][l], told[i][j] * told[k][l] + told[i][l] * told[j][k])
            self.assertEqual(friezes.frieze_determinant(cutting), -(-2) ** (cutting[0] - 2))
        for cutting, (first, last) in LINES:
            number = friezes.frieze(cutting)[first][last]
            self.assertEqual(number == 1, (first, last) in polygons.ties(cutting))
            self.assertEqual(number, len(choices.piece_choices(cutting, first, last)))
            self.assertEqual(number, choices.count_choices(cutting, first, last))

    def test_friezes_by_values(self):
        for cutting, cut in EXCHANGES:
            values = tuple(range(2, cutting[0] - 1))
            told = valued.frieze_by(cutting, values)
            self.assertTrue(all(told[one][other][0] > 0 for one, other in combinations(range(cutting[0]), 2)))
            new, behind = exchanges.comes_for(cutting, cut), exchanges.exchanged(cutting, cut)
            own = dict(zip(cutting[1], values))
            low, high = new
            if told[low][high][1] == 1:
                own[new] = told[low][high][0]
                self.assertEqual(valued.frieze_by(behind, tuple(own[one] for one in behind[1])), told)

    def test_roads(self):
        for cutting in LITTLE:
            road = roads.road_of(cutting)
            self.assertEqual(roads.road_cutting(road), cutting)
            for one, other in combinations(range(cutting[0]), 2):
                across = abs(road[one][0] * road[other][1] - road[one][1] * road[other][0])
                self.assertEqual(friezes.frieze(cutting)[one][other], across)

    def test_two_ones(self):
        for fraction in FRACTIONS:
            row = chains.two_ones(fraction)
            self.assertEqual(len(polygons.ears(rows.row_cutting(row))), 2)
        known = {chains.two_ones(fraction) for fraction in FRACTIONS}
        for cutting in LITTLE:
            if len(polygons.ears(cutting)) == 2:
                turned = {polygons.counts_at(turning.turned(cutting, steps)) for steps in range(cutting[0])}
                self.assertTrue(turned & known)

    def test_rows_that_come_round(self):
        for sides in range(3, 7):
            signs = {}
            for cuts in gears.threefolds(sides):
                even = [plate for plate in loose.plates((sides, cuts)) if len(plate) % 2 == 0]
                signs.setdefault(gears.threefold_counts(sides, cuts), -1 if len(even) % 2 == 0 else 1)
            for sign in (1, -1):
                self.assertEqual(gears.rows_round(sides, sign), sorted(row for row in signs if signs[row] == sign))
            for row in product(range(1, 5), repeat=sides):
                self.assertEqual(gears.comes_round(row), signs.get(row))

    def test_measures(self):
        for top, below in FRACTIONS:
            one, other = measures.measured((top, below))
            self.assertGreaterEqual(min(one + other), 0)
            self.assertEqual((sum(one), sum(other)), (top, below))


class Lines(TestCase):
    def test_rails_and_tiles(self):
        for cutting, line in LINES:
            corners = {}
            for (across, up), (a, b, c, d) in snakes.snake(cutting, line):
                for point, corner in (((across, up), a), ((across, up + 1), b), ((across + 1, up + 1), c), ((across + 1, up), d)):
                    self.assertEqual(corners.setdefault(point, corner), corner)
            for (one, other), tie in snakes.rails(cutting, line):
                self.assertEqual(tuple(sorted((corners[one], corners[other]))), tie)
                self.assertIn(tie, polygons.ties(cutting))

    def test_pairings(self):
        for cutting, line in LINES:
            some = pairings.pairings(cutting, line)
            self.assertEqual(len(some), friezes.frieze(cutting)[line[0]][line[1]])
            self.assertEqual(pairings.count_pairings(cutting, line), len(some))
            found = {pairings.low_pairing(cutting, line)}
            layer = list(found)
            while layer:
                one = layer.pop()
                for tile in pairings.flippable(cutting, line, one):
                    other = pairings.flipped(cutting, line, one, tile)
                    if other not in found:
                        found.add(other)
                        layer.append(other)
            self.assertEqual(sorted(found), some)

    def test_lots(self):
        for cutting, line in LINES:
            tiles = len(snakes.crossed(cutting, line))
            lots = [pairings.lot_of(cutting, line, one) for one in pairings.pairings(cutting, line)]
            ahead = {}
            for tile in range(tiles):
                ahead[tile] = set(range(tiles)).intersection(*[set(lot) for lot in lots if tile in lot])
            for many in range(tiles + 1):
                for lot in combinations(range(tiles), many):
                    self.assertEqual(lot in lots, all(ahead[tile] <= set(lot) for tile in lot))
            for one, other in product(lots, lots):
                self.assertIn(tuple(sorted(set(one) & set(other))), lots)
                self.assertIn(tuple(sorted(set(one) | set(other))), lots)
            told = pairings.level_counts(cutting, line)
            self.assertEqual((told[0], told[-1], len(told)), (1, 1, tiles + 1))

    def test_lengths(self):
        for cutting in LITTLE:
            own = some_lengths(cutting, 3)
            told = dict(zip(combinations(range(cutting[0]), 2), lengths.all_lengths(cutting, own)))
            for a, b, c, d in combinations(range(cutting[0]), 4):
                def times(one, other):
                    return (told[one][0] * told[other][0], told[one][1] * told[other][1])

                whole, (p, q), (r, s) = times((a, c), (b, d)), times((a, b), (c, d)), times((a, d), (b, c))
                self.assertEqual(whole[0] * q * s, whole[1] * (p * s + r * q))
            ones = lengths.all_lengths(cutting, ((1, 1),) * len(own))
            self.assertEqual(ones, [(pairings.count_pairings(cutting, line), 1) for line in told])
            for cut in cutting[1]:
                behind = exchanges.exchanged(cutting, cut)
                self.assertEqual(lengths.all_lengths(behind, lengths.lengths_behind(cutting, own, cut)), list(told.values()))

    def test_tallies(self):
        known = {}
        for many in range(7):
            for shape in product(("right", "up"), repeat=many):
                self.assertNotIn(shapes.tally(shape), known)
                known[shapes.tally(shape)] = shape
        for top, below in FRACTIONS:
            self.assertEqual(shapes.tally(shapes.shape_by(top, below)), (top, below))
        for (top, below), shape in known.items():
            self.assertEqual(shapes.shape_by(top, below), shape)

    def test_names(self):
        for cutting, line in LINES:
            told = names.name(cutting, line)
            self.assertEqual(len(told), pairings.count_pairings(cutting, line))
            self.assertEqual({number for _, number in told}, {1})
            self.assertEqual(len({powers for powers, _ in told}), len(told))
            own = some_lengths(cutting, 2)
            self.assertEqual(sums.value_by(cutting, told, own), lengths.length(cutting, own, line))
        for cutting, cut in EXCHANGES:
            row = tables.table(cutting)[cutting[1].index(cut)]
            wanted = ()
            for sign in (1, -1):
                powers = tuple(1 if number == sign else 0 for number in row)
                wanted = sums.added(cutting, wanted, ((powers, 1),))
            new = exchanges.comes_for(cutting, cut)
            self.assertEqual(sums.multiplied(cutting, names.name(cutting, cut), names.name(cutting, new)), wanted)
        for cutting in LITTLE:
            for corners in combinations(range(cutting[0]), 4):
                crossing, one, other = names.crossing_sums(cutting, corners)
                self.assertEqual(crossing, sums.added(cutting, one, other))

    def test_tables(self):
        for cutting, cut in EXCHANGES:
            behind, new = exchanges.exchanged(cutting, cut), exchanges.comes_for(cutting, cut)
            order = tuple(new if one == cut else one for one in cutting[1])
            columns = [new if tie == cut else tie for tie in polygons.ties(cutting)]
            told = tables.table_turned(cutting, cut)
            wanted = {
                (one, tie): tables.table(behind)[behind[1].index(one)][polygons.ties(behind).index(tie)]
                for one in order for tie in columns
            }
            for one, row in zip(order, told):
                for tie, number in zip(columns, row):
                    self.assertEqual(number, wanted[one, tie])
            for way in ((cut,), (cut, new), (cut, new, cut)):
                for one, name in zip(tables.order_behind(cutting, way), names.names_behind(cutting, way)):
                    self.assertEqual(name, names.name(cutting, one))

    def test_leads_and_bars(self):
        for cutting in LITTLE:
            sides = {(corner, corner + 1) for corner in range(cutting[0] - 1)} | {(0, cutting[0] - 1)}
            some = [line for line in combinations(range(cutting[0]), 2) if line not in sides]
            self.assertEqual(len({leads.lead(cutting, line) for line in some}), len(some))
            self.assertEqual(len({leads.bars(cutting, line) for line in some}), len(some))
            for row in product((-2, -1, 0, 1, 2) if cutting[0] < 6 else (-1, 0, 2), repeat=cutting[0] - 3):
                parts = leads.lead_parts(cutting, row)
                total = [sum(many * leads.lead(cutting, line)[at] for line, many in parts) for at in range(len(row))]
                self.assertEqual(tuple(total), row)
                self.assertFalse([1 for (one, _), (other, _) in combinations(parts, 2) if polygons.crosses(one, other)])
                self.assertFalse(sides & {line for line, _ in parts})


class Trees(TestCase):
    def test_trees_of_cuttings(self):
        for sides in ALL:
            some = [treeforms.tree_of(cutting) for cutting in listing.cuttings(sides)]
            self.assertEqual(some, [treenumbers.tree_with(sides - 2, number) for number in range(treenumbers.count_trees(sides - 2))])
            self.assertEqual([treeforms.tree_cutting(tree) for tree in some], listing.cuttings(sides))
        for cutting, cut in EXCHANGES:
            one, other = treeforms.tree_of(cutting), treeforms.tree_of(exchanges.exchanged(cutting, cut))
            fork, up = treeorder.turned_fork(cutting, cut)
            self.assertEqual(treeorder.fork_turned(one, fork) == other if up else treeorder.fork_turned(other, fork) == one, True)

    def test_the_order(self):
        for one, other in PAIRS:
            mine, yours = treeforms.tree_of(one), treeforms.tree_of(other)
            lesser = [(a, b) for a, b in zip(treeforms.reaches(mine), treeforms.reaches(yours))]
            self.assertEqual(treeorder.is_below(mine, yours), all(a <= b for a, b in lesser))
            self.assertEqual(treeorder.is_below(mine, yours), treeorder.way_up(mine, yours) is not None)
            self.assertEqual(treeforms.reaches(treeorder.meet(mine, yours)), tuple(min(pair) for pair in lesser))
            flipped = treeforms.tree_flipped(yours), treeforms.tree_flipped(mine)
            self.assertEqual(treeorder.is_below(*flipped), treeorder.is_below(mine, yours))

    def test_numbers_of_the_order(self):
        for forks in range(1, 6):
            trees = [treenumbers.tree_with(forks, number) for number in range(treenumbers.count_trees(forks))]
            below = sum(treeorder.is_below(one, other) for one in trees for other in trees)
            self.assertEqual(below, 2 * factorial(4 * forks + 1) // (factorial(forks + 1) * factorial(3 * forks + 2)))
            self.assertEqual(treechains.count_below(forks), below)
            ends = treechains.least_tree(forks), treechains.greatest_tree(forks)
            self.assertEqual((treechains.fewest_up(*ends), treechains.longest_up(*ends)), (forks - 1, forks * (forks - 1) // 2))

    def test_mountains_and_votes(self):
        for forks in range(6):
            trees = [treenumbers.tree_with(forks, number) for number in range(treenumbers.count_trees(forks))]
            mountains = [treerows.mountain(tree) for tree in trees]
            self.assertEqual([treerows.tree_of_mountain(some) for some in mountains], trees)
            votes = [treerows.votes_with(forks, forks, number) for number in range(treerows.count_votes(forks, forks))]
            self.assertEqual(sorted(some.replace("u", "A").replace("d", "B") for some in mountains), votes)


class Partings(TestCase):
    def test_partings_of_cuttings(self):
        for sides in ALL:
            some = [overs.parting_of(cutting) for cutting in ALL[sides]]
            self.assertEqual(sorted(some), partings.partings(sides - 2))
            self.assertEqual([overs.parting_cutting(parting) for parting in some], ALL[sides])
            self.assertEqual([overs.over(parting) for parting in some], [overs.by_least(cutting) for cutting in ALL[sides]])

    def test_overs(self):
        for points in range(1, 6):
            some = partings.partings(points)
            for one in some:
                self.assertEqual(len(one) + len(overs.over(one)), points + 1)
                self.assertEqual(overs.over(overs.over(one)), overs.turned_points(one, 1))
                for other in some:
                    self.assertEqual(partings.is_finer(one, other), partings.is_finer(overs.over(other), overs.over(one)))

    def test_moved_points(self):
        for cutting, cut in EXCHANGES:
            w, x, y, z = sorted(cut + exchanges.comes_for(cutting, cut))
            point, home = x - 1, y - 1
            ahead, behind = overs.parting_of(cutting), overs.parting_of(exchanges.exchanged(cutting, cut))
            if cut == (x, z):
                ahead, behind = behind, ahead
            # From (w, y) to (x, z) the point comes to the block of the other one; nothing else changes.
            rest = [tuple(one for one in block if one != point) for block in ahead]
            put = [tuple(sorted(block + (point,))) if home in block else block for block in rest if block]
            self.assertEqual(tuple(sorted(put)), behind)
            self.assertEqual(overs.moved_point(cutting, cut)[0], point)

    def test_swaps_stairs_and_parkings(self):
        for points in range(2, 5):
            some = swaps.great_swaps(points)
            self.assertEqual(len(some), points ** (points - 2))
            self.assertEqual(partingcounts.count_great(points), len(some))
            self.assertEqual([swaps.swaps_of(swaps.stair_of(points, one)) for one in some], some)
            self.assertEqual([swaps.swaps_for(points, swaps.parking_of(points, one)) for one in some], some)
            fit = [
                parking for parking in product(range(points), repeat=points - 1)
                if all(sum(number < k for number in parking) >= k for k in range(1, points))
            ]
            self.assertEqual(sorted(swaps.parking_of(points, one) for one in some), fit)
            for one, other in product(some, some):
                here = one
                for index in passes.passes_to(points, one, other):
                    here = passes.passed(points, here, index)
                self.assertEqual(here, other)

    def test_signed_numbers(self):
        for points in range(2, 9):
            single, whole = tuple((point,) for point in range(points)), (tuple(range(points)),)
            self.assertEqual(abs(partings.signed_number(single, whole)), listing.count_cuttings(points + 1))


class Ways(TestCase):
    def test_shared_cuts_and_fields(self):
        for one, other in PAIRS:
            both = set(shared.shared_cuts(one, other))
            self.assertFalse(both & set(fewest.least_way(one, other)))
            fields = [
                (shared.within_field(one, field), shared.within_field(other, field)) for field in shared.shared_fields(one, other)
            ]
            self.assertEqual(fewest.fewest_exchanges(one, other), sum(fewest.fewest_exchanges(*pair) for pair in fields))

    def test_least_ways_in_any_order_among_one_another(self):
        one = (8, ((0, 4), (1, 3), (1, 4), (4, 6), (4, 7)))
        other = (8, ((0, 2), (0, 3), (0, 4), (0, 5), (0, 6)))
        fields = [field for field in shared.shared_fields(one, other) if len(field) > 3]
        self.assertEqual(fields, [(0, 1, 2, 3, 4), (0, 4, 5, 6, 7)])
        inner = [
            [(field[low], field[high]) for low, high in fewest.least_way(
                shared.within_field(one, field), shared.within_field(other, field)
            )] for field in fields
        ]
        many = len(inner[0]) + len(inner[1])
        for places in combinations(range(many), len(inner[0])):
            mine, yours = iter(inner[0]), iter(inner[1])
            way = tuple(next(mine) if at in places else next(yours) for at in range(many))
            self.assertIs(fewest.is_least_way(one, other, way), True)

    def test_the_least_number(self):
        far = {pair: fewest.fewest_exchanges(*pair) for pair in PAIRS}
        for (one, other), many in far.items():
            self.assertEqual(far[other, one], many)
            self.assertGreaterEqual(many, len(set(one[1]) - set(other[1])))
            self.assertEqual(fewest.fewest_exchanges(turning.turned(one, 2), turning.turned(other, 2)), many)
            self.assertEqual(fewest.fewest_exchanges(turning.mirrored(one), turning.mirrored(other)), many)
            for third in ALL[one[0]]:
                self.assertLessEqual(many, far[one, third] + far[third, other])
            for corner in range(one[0]):
                self.assertLessEqual(many, len(ways.way_by_fan(one, other, corner)))
            for cut in one[1]:
                if cut not in other[1] and exchanges.comes_for(one, cut) in other[1]:
                    self.assertEqual(far[exchanges.exchanged(one, cut), other], many - 1)
        for cutting in LITTLE:
            for corner in range(cutting[0]):
                self.assertEqual(far[cutting, fan(cutting[0], corner)], ways.far_from_fan(cutting, corner))
                self.assertEqual(ways.far_from_fan(cutting, corner), len([cut for cut in cutting[1] if corner not in cut]))

    def test_rounds(self):
        for one, other in PAIRS:
            self.assertEqual(atonce.fewest_rounds(one, other), atonce.fewest_rounds(other, one))
        for cutting in LITTLE:
            for many in range(1, len(cutting[1]) + 1):
                for cuts in combinations(cutting[1], many):
                    if atonce.can_at_once(cutting, cuts):
                        behind = atonce.exchanged_at_once(cutting, cuts)
                        self.assertEqual(ways.behind_way(cutting, cuts), behind)
                        self.assertEqual(ways.behind_way(cutting, cuts[::-1]), behind)


class Loose(TestCase):
    def test_plates_and_faces(self):
        for one in LOOSE:
            self.assertEqual(len(loose.plates(one)), len(one[1]) + 1)
            signed = sum(many * (-1) ** at for at, many in enumerate(loose.face_counts(one)))
            self.assertEqual(signed, 1 if (one[0] - len(one[1])) % 2 else -1)

    def test_turned_counts(self):
        for sides in ALL:
            told = loosecounts.turned_counts(sides)
            self.assertEqual((told, sum(told)), (told[::-1], len(ALL[sides])))
            self.assertGreaterEqual(min(told), 1)
            for many in range(sides - 2):
                total = sum(loose.count_full(one) for one in LOOSE if one[0] == sides and len(one[1]) == many)
                self.assertEqual(total, len(ALL[sides]) * comb(sides - 3, many))

    def test_plate_sums_twice(self):
        for weights in product((-2, -1, 0, 3), repeat=4):
            below = tuple(-number for number in loosecounts.plate_sums(weights))
            self.assertEqual(tuple(-number for number in loosecounts.plate_sums(below)), weights)

    def test_sliding(self):
        for cutting, cut in EXCHANGES:
            self.assertEqual(loose.slid(cutting, cut), exchanges.exchanged(cutting, cut))
        for one in LOOSE:
            for cut in one[1]:
                rest = loose.cut_out(one, cut)
                here, now = one, cut
                for _ in next(plate for plate in loose.plates(rest) if set(cut) <= set(plate)):
                    here = loose.slid(here, now)
                    now = (set(here[1]) - set(rest[1])).pop()
                self.assertEqual(here, one)

    def test_cuttings_among_them(self):
        for one in LOOSE:
            self.assertEqual(polygons.is_cutting(one), len(one[1]) == one[0] - 3)
            full = loose.full_cuttings(one)
            self.assertTrue(full)
            self.assertTrue(all(loose.lies_in(one, cutting) for cutting in full))


class Gauges(TestCase):
    def test_reaches(self):
        for cutting in LITTLE:
            own = some_lengths(cutting, 4)
            told = reaches.all_reaches(cutting, own)
            known = dict(zip(combinations(range(cutting[0]), 2), told))
            for cut in cutting[1]:
                behind = exchanges.exchanged(cutting, cut), lengths.lengths_behind(cutting, own, cut)
                self.assertEqual(reaches.all_reaches(*behind), told)
            for a, b, c, d in combinations(range(cutting[0]), 4):
                def times(one, other):
                    return (known[one][0] * known[other][0], known[one][1] * known[other][1])

                whole, (p, q), (r, s) = times((a, c), (b, d)), times((a, b), (c, d)), times((b, c), (a, d))
                self.assertEqual(whole[0] * q * s, whole[1] * (p * s + r * q))
            ones = ((1, 1),) * len(own)
            for line, share in zip(known, reaches.all_reaches(cutting, ones)):
                self.assertEqual(share, (pairings.count_pairings(cutting, line), 1))
                self.assertEqual(share[0], friezes.frieze(cutting)[line[0]][line[1]])
                self.assertEqual(sums.value_by(cutting, names.name(cutting, line), ones), share)

    def test_steps(self):
        for cutting in LITTLE:
            for state in list(states_of(cutting, 7)):
                for step in every_step(state):
                    behind = states.led_by(state, step)
                    self.assertIs(states.is_state(behind), True)
                    if step[0] != "clip":
                        self.assertEqual(states.led_by(behind, states.step_back(state, step)), state)

    def test_benches(self):
        for cutting in LITTLE:
            for state in list(states_of(cutting, 9)):
                bench, seen = Bench(state), [state]
                for step in list(every_step(state))[::9]:
                    try:
                        bench.do(step)
                    except ValueError:
                        continue
                    seen.append(bench.state)
                for some in seen[-2::-1]:
                    bench.undo()
                    self.assertEqual(bench.state, some)
                for some in seen[1:]:
                    bench.redo()
                    self.assertEqual(bench.state, some)
