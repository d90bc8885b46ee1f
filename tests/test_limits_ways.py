"""The limits of the document for passes, ways, fields, rounds and loose cuttings."""

from eightworlds import (
    atonce, exchanges, fewest, layers, listing, loose, loosecounts, passes, shared, sieving, swaps, ways,
)
from tests.helpers import fan, halved, zigzag
from tests.slow_ways import GREAT_LOOSE
from tests.test_fewest import MANY
from tests.test_limits import FORTY
from tests.test_swaps import great_parkings
from tests.test_tables import walks
from tests.timed import Timed


class Ways(Timed):
    def test_passes(self):
        for parking in great_parkings():
            some = swaps.swaps_for(38, parking)
            for index in (0, 17, 35):
                told = self.timed(passes.passed, 38, some, index)
                self.assertEqual(self.timed(passes.passed_back, 38, told, index), some)
        some = swaps.great_swaps(5)
        for one in some[::30]:
            for other in some[::30]:
                self.timed(passes.passes_to, 5, one, other)

    def test_ways(self):
        for cutting in FORTY:
            way, behind, _, _ = list(walks(cutting, 80))[-1]
            self.assertEqual(len(way), 80)
            self.assertEqual(self.timed(ways.behind_way, cutting, way), behind)
            back = self.timed(ways.way_back, cutting, way)
            self.assertIs(self.timed(ways.is_way_to, behind, cutting, back), True)
            self.timed(ways.is_way_to, behind, cutting, way * 5)
            for corner in (0, 20, 39):
                self.timed(ways.far_from_fan, cutting, corner)
                for other in FORTY:
                    self.timed(ways.way_by_fan, cutting, other, corner)

    def test_fields(self):
        for one in FORTY:
            for other in FORTY:
                self.timed(shared.shared_cuts, one, other)
                for corners in self.timed(shared.shared_fields, one, other):
                    self.timed(shared.within_field, one, corners)
            self.timed(shared.within_field, one, tuple(range(40)))
            self.timed(shared.within_field, one, (0, 1) * 200)

    def test_fewest(self):
        eight = [fan(8), fan(8, 1), zigzag(8), halved(8)] + [exchanges.exchanged(zigzag(8), cut) for cut in zigzag(8)[1]]
        some = [(one, other) for one in eight for other in eight] + [MANY, MANY[::-1]] + [(one, one) for one in FORTY]
        for one, other in some:
            least = self.timed(fewest.fewest_exchanges, one, other)
            way = self.timed(fewest.least_way, one, other)
            self.assertEqual(len(way), least)
            self.assertIs(self.timed(fewest.is_least_way, one, other, way), True)
            self.assertGreater(self.timed(fewest.count_least_ways, one, other), 0)
            self.assertGreater(self.timed(fewest.on_least_ways, one, other), least)
        for cutting in eight:
            self.timed(layers.layers, cutting)
            self.timed(layers.farthest, cutting)
        for one in FORTY[:3]:
            for other in FORTY[:3]:
                for call in (fewest.fewest_exchanges, fewest.least_way, fewest.count_least_ways, fewest.on_least_ways):
                    self.timed(call, one, other)

    def test_widest(self):
        for sides in range(3, 8):
            self.timed(layers.widest, sides)

    def test_at_once(self):
        for cutting in FORTY:
            self.timed(atonce.count_at_once, cutting)
            self.assertLessEqual(self.timed(atonce.most_at_once, cutting), 19)
            cuts = [cut for cut in cutting[1]][:1]
            for cut in cutting[1]:
                if self.timed(atonce.can_at_once, cutting, tuple(sorted(set(cuts + [cut])))):
                    cuts = sorted(set(cuts + [cut]))
            self.assertGreater(len(cuts), 9)
            self.timed(atonce.exchanged_at_once, cutting, tuple(cuts))
            self.timed(atonce.can_at_once, cutting, cutting[1])
        some = listing.cuttings(7)[::5] + [zigzag(7)]
        for one in some:
            for other in some:
                self.timed(atonce.fewest_rounds, one, other)


class Loose(Timed):
    def test_loose(self):
        for one in GREAT_LOOSE + FORTY:
            for call in (
                loose.is_loose, loose.plates, loose.plate_counts, loose.count_full, loose.face_counts, sieving.loose_plain,
            ):
                self.timed(call, one)
            self.timed(sieving.loose_turned, one, -999)
            for cut in one[1][::5]:
                for call in (loose.slid, loose.slid_back, loose.cut_out):
                    self.timed(call, one, cut)
                self.timed(loose.cut_in, loose.cut_out(one, cut), cut)
            for other in GREAT_LOOSE[::3]:
                for call in (loose.lies_in, loose.common_cuts, loose.joined_cuts):
                    self.timed(call, one, other)
        for one in ((9, ()), zigzag(9), (9, ((0, 4),))):
            self.timed(loose.full_cuttings, one)

    def test_counts(self):
        for many in (0, 1, 98, 99, 197, 198, 10 ** 119):
            self.timed(loosecounts.count_loose, 200, many)
        self.assertEqual(len(self.timed(loosecounts.turned_counts, 200)), 198)
        for counts in ((198,), (0,) * 37 + (5,), (200,) * 38, (10,) + (1,) * 17 + (1,), (0,) * 38, (2, 2, 2, 2) + (0,) * 14 + (1,) * 8):
            self.timed(loosecounts.count_with_plates, 200, counts)
        for many in range(7):
            self.timed(loosecounts.loose_cuttings, 8, many)
        self.timed(loosecounts.loose_cuttings, 8, 10 ** 119)
        for weights in ((10 ** 6,) * 38, (-10 ** 6,) * 38, (10 ** 6, -10 ** 6) * 19, (0,) * 38, (1,) * 38):
            self.timed(loosecounts.plate_sums, weights)

    def test_turned(self):
        for many in (0, 1, 2, 19, 28, 29, 30, 57, 58, 10 ** 119):
            self.timed(sieving.count_unlike, 60, many)
            for steps in (0, 1, 12, 20, 30, -1000, 1000):
                self.timed(sieving.count_still, 60, many, steps)
