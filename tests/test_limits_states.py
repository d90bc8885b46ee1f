"""The limits of the document for reaches, states, tellings, texts, values and benches."""

from eightworlds import reaches, states, tellings, worldtexts
from eightworlds.exchanges import fan_way
from eightworlds.listing import cuttings
from eightworlds.worldbenches import Bench
from eightworlds.worldvalues import Gauged
from tests import helpers
from tests.helpers import fan, halved, zigzag
from tests.slow_states import every_step
from tests.test_limits import FORTY
from tests.test_limits_lines import many_lengths
from tests.timed import Timed

# Slow machines get more time for the greatest integers.
LONGER = 3.0
GREAT = 10 ** 120 - 200


def states_of_forty():
    """States of 40 sides, with little lengths and with great ones."""
    for cutting in FORTY:
        for great in (1, 10 ** 30, GREAT):
            piece = helpers.slow_pieces(cutting)[20]
            yield (cutting, many_lengths(cutting, great), (3, 25), piece)


class Reaches(Timed):
    def test_reaches(self):
        for cutting in FORTY:
            for great in (0, 10 ** 30, GREAT):
                own = many_lengths(cutting, great)
                self.assertEqual(len(self.timed(reaches.all_reaches, cutting, own, within=LONGER)), 780)
                for first, last in ((0, 20), (39, 1), (5, 6)):
                    self.timed(reaches.reach, cutting, own, first, last)
                self.timed(reaches.scaled, cutting, own, 0, (1000, 999))

    def test_values(self):
        for cutting in FORTY:
            for great in (0, 10 ** 30, GREAT):
                one = self.timed(Gauged, cutting, many_lengths(cutting, great))
                other = one
                for cut in cutting[1][::5]:
                    other = self.timed(lambda: one ^ cut)
                self.timed(lambda: one << 999)
                self.timed(lambda: ~one)
                self.timed(lambda: one * (999, 1000))
                self.timed(lambda: one(0, 20))
                self.timed(lambda: one[(0, 39)])
                self.timed(lambda: (0, 39) in one)
                self.timed(lambda: str(one))
                self.timed(lambda: len(one))
                self.timed(lambda: one == other)
                self.timed(lambda: bool(one), within=LONGER)
                self.assertIs(self.timed(lambda: one.same(other), within=LONGER), True)
            whole = Gauged(cutting, tuple((GREAT + at, 1) for at in range(77)))
            self.timed(lambda: bool(whole), within=LONGER)
            self.assertIs(self.timed(lambda: bool(Gauged.ones(cutting))), True)


class States(Timed):
    def test_steps_and_scripts(self):
        for state in states_of_forty():
            self.assertIs(self.timed(states.is_state, state), True)
            steps = list(every_step(state))
            for step in steps[::100]:
                self.timed(states.led_by, state, step)
                self.timed(states.step_back, state, step)
            for script in (
                tuple(("exchange", cut) for cut in fan_way(state[0])[:12]), tuple(("turn", 7) for _ in range(12)),
                tuple(("scale", corner, (999, 1000)) for corner in range(12)), (("mirror",),) * 12,
            ):
                self.assertEqual(len(self.timed(states.all_led, state, script, within=LONGER)), len(script) + 1)
                text = self.timed(worldtexts.script_text, script)
                self.assertEqual(self.timed(worldtexts.read_script, text), script)

    def test_growing_to_forty_sides(self):
        cutting = zigzag(28)
        state = (cutting, many_lengths(cutting, GREAT), (3, 20), helpers.slow_pieces(cutting)[9])
        script = tuple(("grow", (at, at + 1), (1, 1000), (999, 1)) for at in range(12))
        told = self.timed(states.all_led, state, script)
        self.assertEqual(told[-1][0][0], 40)

    def test_tellings(self):
        for facts in ((), (("tie", 0, 4, True),) * 8, (("count", 0, 3), ("ear", 5, False)), (("ear", 0, True), ("ear", 1, True))):
            self.timed(tellings.cuttings_told, 9, facts)
            self.timed(tellings.surely_tied, 9, facts, 8, 3)
        for cutting in cuttings(9)[::25] + [zigzag(9), fan(9), halved(9)]:
            self.timed(tellings.fewest_counts, cutting)


class Texts(Timed):
    def test_texts(self):
        for state in states_of_forty():
            cutting, own, _, _ = state
            text = self.timed(worldtexts.cutting_text, cutting)
            self.assertEqual(self.timed(worldtexts.read_cutting, text), cutting)
            row = self.timed(worldtexts.lengths_text, cutting, own)
            self.assertEqual(self.timed(worldtexts.read_lengths, cutting, row), own)
            for spoilt in (text + " ", text * 9, text.replace("-", "--"), row, row + " 1", "0" + row, row[:-1] + "x", ""):
                self.timed(worldtexts.read_cutting, spoilt)
                self.timed(worldtexts.read_lengths, cutting, spoilt)
                self.timed(worldtexts.read_script, spoilt)

    def test_long_texts(self):
        for long in ("1" * 100000, "1 " * 100000, "mirror\n" * 100000, "5: " + "0-2 " * 100000, "-" * 100000, "0" * 100000, "\u0661" * 100000,
                     "scale 1 " + "9" * 50000, "turn -" + "4" * 50000, "1/" * 50000, "\n" * 100000, " " * 100000, "40:" * 40000):
            self.timed(worldtexts.read_cutting, long)
            self.timed(worldtexts.read_lengths, fan(40), long)
            self.timed(worldtexts.read_script, long)


class Benches(Timed):
    def test_sixty_calls(self):
        for state in list(states_of_forty())[::4]:
            bench = Bench(state)
            for at in range(60):
                cuts = bench.cutting[1]
                self.timed(bench.do, ("exchange", cuts[at * 7 % len(cuts)]) if at % 3 else ("turn", 3))
            for seen in (
                lambda: bench.reach, lambda: bench.crossed, lambda: bench.counts, lambda: bench.log, lambda: list(bench.lines()), lambda: bench[(0, 39)],
                lambda: bool(bench), lambda: len(bench), lambda: (0, 1, 39) in bench, lambda: bench == Bench(bench.state),
                lambda: bench.attempt(lambda one: [one.undo() for _ in range(60)]), lambda: [bench.redo() for _ in range(60)],
            ):
                self.timed(seen)
            self.assertEqual(len(bench), 60)

    def test_sixty_scripts(self):
        bench = Bench(list(states_of_forty())[1])
        for _ in range(60):
            cuts = bench.cutting[1]
            bench = self.timed(bench.__iadd__, tuple(("exchange", cut) for cut in cuts[1:8:3]) + (("turn", 5), ("scale", 3, (7, 9))) * 4)
        self.assertEqual((len(bench), len(bench.log)), (60, 660))
        self.timed(lambda: bench.log)


class AnyValues(Timed):
    def test_deep_and_wide_values(self):
        some = [helpers.nested(29, leaf, kind) for leaf in (0, (), "x", None) for kind in (tuple, list)]
        some += [(5, some[0]), (some[0],) * 400, (0,) * 400, ((0, 2),) * 400]
        state = next(states_of_forty())
        one, bench = Gauged(state[0], state[1]), Bench(state)
        for value in some:
            for call in (
                lambda: Gauged(value, value), lambda: Gauged(one.cutting, value), lambda: Gauged.ones(value), lambda: one ^ value,
                lambda: one << value, lambda: one * value, lambda: one(value, 0), lambda: one[value], lambda: value in one,
                lambda: one.same(value), lambda: one == value, lambda: Bench(value), lambda: bench.do(value),
                lambda: bench.__iadd__(value), lambda: bench[value], lambda: value in bench, lambda: bench == value,
            ):
                self.timed(call)
        self.assertEqual(bench.state, state)
