"""Point 98: Bench."""

from unittest import TestCase

from eightworlds.errors import (
    Held, InvalidCorner, InvalidCut, InvalidScript, InvalidSide, InvalidState, InvalidStep, InvalidTie, NoEar,
    NothingToRedo, NothingToUndo, TooMany,
)
from eightworlds.reaches import reach
from eightworlds.snakes import crossed
from eightworlds.states import all_led, led_by
from eightworlds.worldbenches import Bench
from tests import helpers
from tests.calls_states import NO_STEPS, SCRIPT, STATE
from tests.helpers import Q, Z, fan, zigzag
from tests.slow_states import GREAT_STATES, LITTLE_STATES, ONE, every_step
from tests.test_lengths import some_lengths

STATES = LITTLE_STATES[::4] + GREAT_STATES
MIRROR, SCALE = ("mirror",), ("scale", 1, (2, 3))
# Steps that cannot be done on the state ONE, and their errors.
ERRING = [
    (("exchange", (1, 3)), InvalidCut), (("walk", (0, 1)), InvalidCut), (("scale", 4, (1, 1)), InvalidCorner), (("aim", 2, 2), InvalidCorner),
    (("grow", (0, 2), (1, 1), (1, 1)), InvalidSide), (("clip", 0), NoEar), (("clip", 1), Held), (("clip", 9), InvalidCorner),
]


class Oops(Exception):
    """An error of another kind."""


def told(bench):
    """All that can be seen of a bench, and of what can be done again."""
    return (bench.state, len(bench), bench.log)


def future(bench):
    """The states that doing again leads to, and behind these, those that taking back leads to; all is left as it was."""
    found = []
    times = 0
    while True:
        try:
            bench.redo()
        except NothingToRedo:
            break
        times += 1
        found.append(bench.state)
    for _ in range(times):
        bench.undo()
    return found


def past(bench):
    """The states that taking back leads to; all is left as it was."""
    found = []
    many = len(bench)
    for _ in range(many):
        bench.undo()
        found.append(bench.state)
    for _ in range(many):
        bench.redo()
    return found


class Seen(TestCase):
    def test_properties(self):
        for state in STATES:
            bench = Bench(state)
            self.assertEqual((bench.state, bench.cutting, bench.lengths, bench.line, bench.seat), (state,) + state)
            self.assertEqual(bench.counts, helpers.slow_counts(state[0]))
            self.assertEqual(bench.crossed, tuple(crossed(state[0], state[2])))
            self.assertEqual(bench.reach, reach(state[0], state[1], *state[2]))
            self.assertEqual((bench.log, len(bench)), ((), 0))
            self.assertIs(bool(bench), state[2] in helpers.slow_ties(state[0]))
            for name in ("state", "cutting", "lengths", "line", "seat", "counts", "crossed", "reach", "log"):
                with self.assertRaises(AttributeError):
                    setattr(bench, name, getattr(bench, name))
        self.assertEqual((Bench.MOST, Bench(ONE).MOST), (60, 60))

    def test_no_state(self):
        for wrong in STATE[1]:
            with self.assertRaises(InvalidState):
                Bench(wrong)

    def test_ties(self):
        for state in STATES[::3]:
            bench, known = Bench(state), helpers.slow_ties(state[0])
            for tie, share in zip(known, state[1]):
                self.assertEqual(bench[tie], (share, set(tie) <= set(state[3])))
                self.assertIs(bench[tie][1], set(tie) <= set(state[3]))
            for wrong in [(1, 0), (0, 99), (-1, 0), (False, 1), [0, 1], (0, 1, 2), None, "x", 0, bench]:
                with self.assertRaises(InvalidTie):
                    bench[wrong]
        for wrong in helpers.OTHERS + helpers.INTS + [(1, 3)]:
            with self.assertRaises(InvalidTie):
                Bench(ONE)[wrong]

    def test_pieces(self):
        for state in STATES[::3]:
            bench, known = Bench(state), helpers.slow_pieces(state[0])
            for piece in known:
                self.assertIs(piece in bench, True)
                self.assertIs(list(piece) in bench, False)
                self.assertIs(piece[::-1] in bench, False)
            rows = [("-".join(map(str, piece)) + ("*" if piece == state[3] else "")) for piece in known]
            self.assertEqual(list(bench.lines()), rows)
        for wrong in helpers.OTHERS + helpers.INTS + [(0, 1, 3), (0, 2), (False, 1, 2), (0, True, 2), (0, 1, 2, 3), ((0, 1, 2),), Bench(ONE)]:
            self.assertIs(wrong in Bench(ONE), False)

    def test_lines_are_a_generator(self):
        bench = Bench(ONE)
        lines = bench.lines()
        self.assertIs(iter(lines), lines)
        bench.do(("exchange", (0, 2)))
        self.assertEqual(list(lines), ["0-1-3*", "1-2-3"])
        self.assertEqual(list(lines), [])
        # What is shown is what there is as the first item is asked for.
        lines = bench.lines()
        first = next(lines)
        bench.do(("exchange", (1, 3)))
        self.assertEqual([first] + list(lines), ["0-1-3*", "1-2-3"])
        self.assertEqual(list(bench.lines()), ["0-1-2*", "0-2-3"])

    def test_no_iteration(self):
        bench = Bench(ONE)
        bench.do(MIRROR)
        for call in (iter, list, tuple, sorted, lambda value: [item for item in value]):
            with self.assertRaises(TypeError):
                call(bench)

    def test_equal(self):
        for state in STATES[::5]:
            one, other = Bench(state), Bench(state)
            self.assertTrue(one == other)
            other.do(MIRROR)
            self.assertIs(one == other, state == led_by(state, MIRROR))
            other.do(MIRROR)
            self.assertTrue(one == other)
            self.assertFalse(one != other)
            for wrong in helpers.OTHERS + [state, list(state), 0, object()]:
                self.assertIs(one == wrong, False)
                self.assertIs(wrong == one, False)
        self.assertFalse(Bench(ONE) == Bench(led_by(ONE, SCALE)))


class Done(TestCase):
    def test_do(self):
        for state in STATES:
            steps = list(every_step(state))
            for step in steps[::1 if state[0][0] < 6 else max(1, len(steps) // 12)]:
                bench = Bench(state)
                behind = led_by(state, step)
                self.assertIs(bench.do(step), behind != state)
                self.assertEqual(told(bench), (behind, 1, (step,)))
                self.assertIsNone(bench.undo())
                self.assertEqual(told(bench), (state, 0, ()))
                self.assertIsNone(bench.redo())
                self.assertEqual(told(bench), (behind, 1, (step,)))

    def test_scripts(self):
        for state in STATES[::2]:
            script, states = (), [state]
            for at in range(12):
                steps = list(every_step(states[-1]))
                script += (steps[(at * 5 + 2) % len(steps)],)
                states.append(led_by(states[-1], script[-1]))
            bench = held = Bench(state)
            bench += script[:5]
            self.assertIs(bench, held)
            self.assertEqual(told(bench), (states[5], 1, script[:5]))
            bench += script[5:]
            bench += ()
            self.assertEqual(told(bench), (all_led(state, script)[-1], 3, script))
            self.assertEqual(past(bench), [states[12], states[5], state])
            self.assertEqual(told(bench), (states[12], 3, script))

    def test_calls_by_which_nothing_changes(self):
        bench = Bench(ONE)
        self.assertIs(bench.do(("turn", 0)), False)
        self.assertIs(bench.do(("scale", 0, (1, 1))), False)
        bench += ()
        bench += (MIRROR, MIRROR)
        self.assertEqual(told(bench), (ONE, 4, (("turn", 0), ("scale", 0, (1, 1)), MIRROR, MIRROR)))
        bench.do(SCALE)
        for many in (4, 3, 2, 1, 0):
            bench.undo()
            self.assertEqual((bench.state, len(bench)), (ONE, many))
        with self.assertRaises(NothingToUndo):
            bench.undo()
        self.assertEqual(len(future(bench)), 5)

    def test_redo(self):
        bench = Bench(ONE)
        for call in (bench.redo, bench.undo):
            with self.assertRaises(NothingToRedo if call == bench.redo else NothingToUndo):
                call()
        bench.do(SCALE)
        bench.do(MIRROR)
        with self.assertRaises(NothingToRedo):
            bench.redo()
        bench.undo()
        bench.undo()
        self.assertEqual(future(bench), [led_by(ONE, SCALE), led_by(led_by(ONE, SCALE), MIRROR)])
        bench.redo()
        # Calls that raise leave what can be done again; another call takes it away, also one by which nothing changes.
        for step, error in ERRING:
            with self.assertRaises(error):
                bench.do(step)
        with self.assertRaises(InvalidStep):
            bench.do(None)
        self.assertEqual(len(future(bench)), 1)
        bench.do(("turn", 0))
        with self.assertRaises(NothingToRedo):
            bench.redo()
        bench.undo()
        self.assertEqual(future(bench), [bench.state])
        bench += ()
        with self.assertRaises(NothingToRedo):
            bench.redo()

    def test_all_is_taken_back_and_done_anew(self):
        for state in STATES[::2]:
            bench, states = Bench(state), [state]
            for at in range(20):
                steps = list(every_step(bench.state))
                step = steps[(at * at * 3 + 7 * at + 1) % len(steps)]
                if at % 5 == 4:
                    bench += (step,)
                else:
                    bench.do(step)
                states.append(bench.state)
            self.assertEqual(past(bench), states[-2::-1])
            log = bench.log
            for _ in range(20):
                bench.undo()
            self.assertEqual((told(bench), bool(bench.log)), ((state, 0, ()), False))
            self.assertEqual(future(bench), states[1:])
            for _ in range(20):
                bench.redo()
            self.assertEqual(told(bench), (states[-1], 20, log))


class Errors(TestCase):
    def setUp(self):
        self.bench = Bench(ONE)
        self.bench.do(SCALE)
        self.bench += (SCALE, SCALE)
        self.bench.undo()
        self.bench.undo()
        self.before = (told(self.bench), future(self.bench))

    def tearDown(self):
        self.assertEqual((told(self.bench), future(self.bench)), self.before)

    def add(self, script):
        self.bench += script

    def test_do(self):
        for step, error in ERRING:
            with self.assertRaises(error) as caught:
                self.bench.do(step)
            self.assertIs(caught.exception.__class__, error)
        for step in NO_STEPS + helpers.OTHERS + helpers.INTS:
            with self.assertRaises(InvalidStep):
                self.bench.do(step)

    def test_scripts(self):
        for step, error in ERRING:
            for script in ((step,), (MIRROR, MIRROR, step, ("clip", 39)), (("turn", 4), step)):
                with self.assertRaises(error):
                    self.add(script)
        for script in SCRIPT[1]:
            with self.assertRaises(InvalidScript):
                self.add(script)
        with self.assertRaises(TooMany) as caught:
            Bench((zigzag(40), some_lengths(zigzag(40)), (0, 1), (0, 1, 39))).do(("grow", (0, 1), (1, 1), (1, 1)))
        self.assertEqual(caught.exception.limit, 40)

    def test_sixty_calls(self):
        bench = Bench(ONE)
        for at in range(60):
            if at % 2:
                bench.do(("turn", at % 7))
            else:
                bench += (("turn", 1), ("turn", 0))
        self.assertEqual((len(bench), len(bench.log)), (60, 90))
        before = told(bench)
        for call in (bench.do, lambda step: bench.__iadd__((step,)), lambda step: bench.__iadd__(())):
            with self.assertRaises(TooMany) as caught:
                call(MIRROR)
            self.assertEqual(caught.exception.limit, 60)
        # The errors of the step come first.
        for step, error in (
            (("exchange", (0, 1)), InvalidCut), (("scale", 4, (1, 1)), InvalidCorner), (("grow", (0, 2), (1, 1), (1, 1)), InvalidSide),
            (("clip", 9), InvalidCorner),
        ):
            for call in (bench.do, lambda step: bench.__iadd__((MIRROR, step))):
                with self.assertRaises(error):
                    call(step)
        with self.assertRaises(InvalidStep):
            bench.do(("turn", 41))
        with self.assertRaises(InvalidScript):
            bench.__iadd__(None)
        with self.assertRaises(TooMany):
            bench.attempt(lambda one: (one.undo(), one.do(MIRROR), one.do(MIRROR)))
        self.assertEqual(told(bench), before)
        bench.undo()
        self.assertIs(bench.do(("turn", 0)), False)
        self.assertEqual(len(bench), 60)
        bench.undo()
        bench.redo()
        self.assertEqual(len(bench), 60)


class Attempts(TestCase):
    def bench(self):
        """A bench with two calls that can be taken back, and two that can be done again."""
        bench = Bench(ONE)
        for step in (SCALE, ("exchange", (0, 2)), MIRROR, ("turn", 1)):
            bench.do(step)
        bench.undo()
        bench.undo()
        return bench

    def seen(self, bench):
        return (told(bench), past(bench), future(bench))

    def test_what_is_returned(self):
        bench = self.bench()
        held = []
        for value in (None, 0, False, "x", [1], bench):
            self.assertIs(bench.attempt(lambda one: held.append(one) or value), value)
        self.assertTrue(all(one is bench for one in held))
        self.assertEqual(self.seen(bench), self.seen(self.bench()))
        self.assertIs(bench.attempt(lambda one: one.do(SCALE)), True)
        self.assertEqual((len(bench), future(bench)), (3, []))

    def test_what_ends_well_is_kept(self):
        bench = self.bench()

        def action(one):
            one.undo()
            one += (SCALE, MIRROR)
            one.do(("turn", 2))
            one.undo()
            return len(one)

        self.assertEqual(bench.attempt(action), 2)
        self.assertEqual(bench.log, (SCALE, SCALE, MIRROR))
        self.assertEqual(len(future(bench)), 1)

    def test_errors_of_all_kinds(self):
        def deed(one, error):
            one.undo()
            one += (SCALE, MIRROR)
            one.do(("turn", 2))
            one.undo()
            raise error

        for error in (
            InvalidStep("x"), Held("x"), TooMany(3), Oops("x"), ValueError("x"), KeyError("x"), ZeroDivisionError(), AttributeError("x"),
            RuntimeError(), StopIteration(), KeyboardInterrupt(), GeneratorExit(), SystemExit(),
        ):
            bench = self.bench()
            with self.assertRaises(error.__class__) as caught:
                bench.attempt(lambda one: deed(one, error))
            self.assertIs(caught.exception, error)
            self.assertEqual(self.seen(bench), self.seen(self.bench()))

    def test_errors_of_steps(self):
        bench = self.bench()
        for step in (("exchange", (0, 2)), ("clip", 39), None):
            with self.assertRaises((InvalidCut, InvalidCorner, InvalidStep)):
                bench.attempt(lambda one: (one.do(MIRROR), one.do(MIRROR), one.do(step)))
            self.assertEqual(self.seen(bench), self.seen(self.bench()))
        with self.assertRaises(NothingToUndo):
            bench.attempt(lambda one: [one.undo() for _ in range(3)])
        with self.assertRaises(NothingToRedo):
            bench.attempt(lambda one: [one.redo() for _ in range(3)])
        self.assertEqual(self.seen(bench), self.seen(self.bench()))

    def test_errors_that_the_function_has_caught(self):
        bench = self.bench()

        def action(one):
            one.do(MIRROR)
            try:
                one.do(("clip", 39))
            except InvalidCorner:
                return "caught"

        self.assertEqual(bench.attempt(action), "caught")
        self.assertEqual((len(bench), bench.log[-1]), (3, MIRROR))

    def test_attempts_within_attempts(self):
        bench = self.bench()

        def inner(one):
            one.do(("turn", 3))
            raise Oops

        def outer(one):
            one.do(MIRROR)
            before = self.seen(one)
            try:
                one.attempt(inner)
            except Oops:
                self.assertEqual(self.seen(one), before)
            one.undo()
            return one.attempt(lambda other: other.do(SCALE))

        self.assertIs(bench.attempt(outer), True)
        self.assertEqual((len(bench), bench.log[-1], future(bench)), (3, SCALE, []))
        bench = self.bench()
        with self.assertRaises(Oops):
            bench.attempt(lambda one: (one.do(MIRROR), one.attempt(lambda other: other.do(SCALE)), one.attempt(inner)))
        self.assertEqual(self.seen(bench), self.seen(self.bench()))


class Apart(TestCase):
    def test_two_benches_share_nothing(self):
        for state in STATES[::6]:
            before = repr(state)
            one, other = Bench(state), Bench(state)
            one.do(MIRROR)
            one += (("turn", 1),)
            self.assertEqual((told(other), repr(state)), ((state, 0, ()), before))
            kept = (one.state, one.log, one.counts, one.crossed)
            self.assertTrue(all(isinstance(value, tuple) for value in kept))
            held = repr(kept)
            one.undo()
            one.do(("scale", 0, (2, 1)))
            self.assertEqual(repr(kept), held)

    def test_scripts_are_left_as_they_were(self):
        script = (("exchange", (0, 2)), SCALE, ("grow", (1, 2), (1, 2), (3, 1)))
        before = repr(script)
        bench = Bench(ONE)
        bench += script
        bench.undo()
        self.assertEqual(repr(script), before)
        self.assertEqual(Bench(ONE).cutting, Q)
        self.assertEqual(Bench((Z, some_lengths(Z), (1, 4), (0, 2, 5))).crossed, ((0, 2), (2, 5), (3, 5)))
        self.assertEqual(Bench((fan(6), some_lengths(fan(6)), (1, 5), (0, 1, 2))).crossed, ((0, 2), (0, 3), (0, 4)))
