"""Points 93 and 94: states, steps and scripts."""

from itertools import combinations, product
from unittest import TestCase

from eightworlds.errors import (
    Held, InvalidCorner, InvalidCut, InvalidScript, InvalidSide, InvalidState, InvalidStep, NoEar, TooMany,
)
from eightworlds.reaches import reach
from eightworlds.states import all_led, is_script, is_state, is_step, led_by, step_back
from tests import helpers
from tests.calls_states import NO_STEPS, SCRIPT_VALUE, STATE
from tests.helpers import FAN, H, P, Q, TRIANGLE, Z, fan, zigzag
from tests.slow_states import GREAT_STATES, LITTLE_STATES, ONE, every_step, slow_led, states_of
from tests.test_lengths import some_lengths

THREE = (TRIANGLE, ((1, 1), (2, 1), (1, 3)), (0, 2), (0, 1, 2))


class Kinds(TestCase):
    def test_is_state(self):
        for state in LITTLE_STATES + GREAT_STATES + [ONE, THREE]:
            self.assertIs(is_state(state), True)
        for value in STATE[1]:
            self.assertIs(is_state(value), False)
        for cutting in (Q, P, H):
            sides, lengths = cutting[0], some_lengths(cutting)
            pieces = helpers.slow_pieces(cutting)
            for seat in combinations(range(-1, sides + 1), 3):
                self.assertIs(is_state((cutting, lengths, (0, 1), seat)), seat in pieces)
            for line in product(range(-1, sides + 1), repeat=2):
                self.assertIs(is_state((cutting, lengths, line, pieces[0])), 0 <= line[0] < line[1] < sides)
            self.assertIs(is_state((cutting, lengths[1:], (0, 1), pieces[0])), False)

    def test_is_step(self):
        for state in LITTLE_STATES[::9] + GREAT_STATES[:3]:
            for step in every_step(state):
                self.assertIs(is_step(step), True)
        for step in (
            ("exchange", (0, 1)), ("exchange", (38, 39)), ("walk", (0, 39)), ("grow", (0, 39), (1000, 1), (1, 1000)), ("turn", 40),
            ("turn", -40), ("turn", 0), ("aim", 3, 3), ("aim", 39, 0), ("clip", 39), ("clip", 0), ("scale", 39, (1000, 999)),
            ("scale", 0, (1, 1)), ("mirror",),
        ):
            self.assertIs(is_step(step), True)
            self.assertIs(is_step(list(step)), False)
        for value in NO_STEPS + helpers.OTHERS + helpers.INTS:
            self.assertIs(is_step(value), False)

    def test_is_script(self):
        self.assertIs(is_script(()), True)
        self.assertIs(is_script(SCRIPT_VALUE), True)
        self.assertIs(is_script((("mirror",),) * 12), True)
        self.assertIs(is_script((("mirror",),) * 13), False)
        for step in NO_STEPS:
            self.assertIs(is_script((("mirror",), step)), False)
        for value in helpers.OTHERS + helpers.INTS:
            self.assertIs(is_script(value), False)


class Steps(TestCase):
    def test_all_steps(self):
        for state in LITTLE_STATES:
            for step in every_step(state):
                told = led_by(state, step)
                self.assertEqual(told, slow_led(state, step), (state, step))
                self.assertIs(is_state(told), True)

    def test_great_states(self):
        for state in GREAT_STATES:
            steps = list(every_step(state))
            for step in steps[::max(1, len(steps) // 30)]:
                self.assertEqual(led_by(state, step), slow_led(state, step))

    def test_back(self):
        for state in LITTLE_STATES + GREAT_STATES:
            steps = list(every_step(state))
            for step in steps[::1 if state[0][0] < 7 else max(1, len(steps) // 20)]:
                back = step_back(state, step)
                if step[0] == "clip":
                    self.assertIsNone(back)
                    continue
                self.assertIs(is_step(back), True)
                self.assertEqual(led_by(led_by(state, step), back), state)

    def test_what_steps_back_are(self):
        state = next(states_of(H))
        self.assertEqual(step_back(state, ("turn", 40)), ("turn", -40))
        self.assertEqual(step_back(state, ("turn", 0)), ("turn", 0))
        self.assertEqual(step_back(state, ("mirror",)), ("mirror",))
        self.assertEqual(step_back(state, ("scale", 5, (7, 1000))), ("scale", 5, (1000, 7)))
        self.assertEqual(step_back((H, state[1], (2, 5), (0, 1, 2)), ("aim", 5, 0)), ("aim", 2, 5))
        self.assertEqual(step_back((H, state[1], (2, 5), (0, 1, 2)), ("walk", (0, 2))), ("walk", (0, 2)))
        self.assertEqual(step_back(state, ("grow", (0, 5), (1, 1), (1, 1))), ("clip", 6))
        self.assertEqual(step_back(state, ("grow", (4, 5), (1, 1), (1, 1))), ("clip", 5))
        self.assertEqual(step_back(state, ("grow", (0, 1), (1, 1), (1, 1))), ("clip", 1))
        self.assertEqual(step_back(THREE, ("grow", (0, 2), (1, 1), (1, 1))), ("clip", 3))
        self.assertEqual(step_back(state, ("exchange", (2, 4))), ("exchange", (0, 3)))
        self.assertIsNone(step_back((H, state[1], (2, 5), (0, 1, 2)), ("clip", 3)))

    def test_the_seat_goes_along(self):
        # Of the corners 0, 2, 3, 5 of both pieces with (0, 3), that with 0 and 2 gives way to the new one with these.
        for cutting, cut, moves in (
            ((6, ((0, 2), (0, 3), (3, 5))), (0, 3), {(0, 2, 3): (0, 2, 5), (0, 3, 5): (2, 3, 5), (0, 1, 2): (0, 1, 2)}),
            ((6, ((0, 2), (2, 5), (3, 5))), (2, 5), {(0, 2, 5): (0, 2, 3), (2, 3, 5): (0, 3, 5), (3, 4, 5): (3, 4, 5)}),
        ):
            for seat, other in moves.items():
                state = (cutting, some_lengths(cutting), (0, 1), seat)
                self.assertEqual(led_by(state, ("exchange", cut))[3], other)

    def test_reaches_go_along(self):
        for state in LITTLE_STATES[::7]:
            for cut in state[0][1]:
                told = led_by(state, ("exchange", cut))
                for line in combinations(range(state[0][0]), 2):
                    self.assertEqual(reach(told[0], told[1], *line), reach(state[0], state[1], *line))

    def test_growing_and_clipping(self):
        state = (Z, some_lengths(Z), (2, 4), (2, 3, 5))
        told = led_by(state, ("grow", (0, 5), (1, 2), (3, 1)))
        self.assertEqual((told[0][0], told[2], told[3]), (7, (2, 4), (2, 3, 5)))
        self.assertEqual((reach(told[0], told[1], 0, 6), reach(told[0], told[1], 5, 6)), ((1, 2), (3, 1)))
        told = led_by(state, ("grow", (0, 1), (1, 2), (3, 1)))
        self.assertEqual((told[2], told[3]), ((3, 5), (3, 4, 6)))
        self.assertEqual((reach(told[0], told[1], 0, 1), reach(told[0], told[1], 1, 2)), ((1, 2), (3, 1)))
        # If the corner 0 goes, the two beside it get 0 and the last number.
        state = (fan(5, 4), some_lengths(fan(5, 4)), (1, 4), (2, 3, 4))
        told = led_by(state, ("clip", 0))
        self.assertEqual((told[0], told[2], told[3]), ((4, ((1, 3),)), (0, 3), (1, 2, 3)))
        self.assertEqual(reach(told[0], told[1], 0, 3), reach(state[0], state[1], 1, 4))

    def test_from_the_triangle_to_forty_sides(self):
        state, script = THREE, ()
        while state[0][0] < 40:
            side = (0, state[0][0] - 1) if state[0][0] % 2 else (1, 2)
            step = ("grow", side, (2, 1), (1, 3))
            self.assertEqual(led_by(led_by(state, step), step_back(state, step)), state)
            state, script = led_by(state, step), script + (step,)
        self.assertEqual(len(script), 37)
        for call in (led_by, step_back):
            with self.assertRaises(TooMany) as caught:
                call(state, ("grow", (0, 1), (1, 1), (1, 1)))
            self.assertEqual(caught.exception.limit, 40)
            with self.assertRaises(InvalidSide):
                call(state, ("grow", (0, 38), (1, 1), (1, 1)))


class Scripts(TestCase):
    def test_all_led(self):
        for state in LITTLE_STATES[::5] + GREAT_STATES:
            script, wanted = [], [state]
            for at in range(12):
                steps = list(every_step(wanted[-1]))
                script.append(steps[(at * at * 7 + 3 * at) % len(steps)])
                wanted.append(slow_led(wanted[-1], script[-1]))
            told = all_led(state, tuple(script))
            self.assertIsInstance(told, list)
            self.assertEqual(told, wanted)
            self.assertEqual(all_led(state, ()), [state])
            for many in range(12):
                back = step_back(wanted[many], script[many])
                if back is not None:
                    self.assertEqual(led_by(wanted[many + 1], back), wanted[many])

    def test_the_first_step_that_errs(self):
        for wrong, error in (
            (("exchange", (0, 1)), InvalidCut), (("scale", 9, (1, 1)), InvalidCorner), (("grow", (0, 2), (1, 1), (1, 1)), InvalidSide),
            (("clip", 0), NoEar), (("walk", (1, 3)), InvalidCut), (("aim", 2, 2), InvalidCorner),
        ):
            with self.assertRaises(error):
                all_led(ONE, (("mirror",), ("mirror",), wrong, ("clip", 39), ("exchange", (7, 9))))

    def test_errors(self):
        for value in STATE[1]:
            for call in (led_by, all_led, step_back):
                with self.assertRaises(InvalidState):
                    call(value, None)
        for value in NO_STEPS:
            for call in (led_by, step_back):
                with self.assertRaises(InvalidStep):
                    call(ONE, value)
            with self.assertRaises(InvalidScript):
                all_led(ONE, (value,))
        with self.assertRaises(InvalidScript):
            all_led(ONE, (("clip", 39),) * 13)


class Errors(TestCase):
    def check(self, state, step, error):
        before = repr((state, step))
        for call in (led_by, step_back):
            with self.assertRaises(error) as caught:
                call(state, step)
            self.assertIs(caught.exception.__class__, error)
        self.assertEqual(repr((state, step)), before)

    def test_cuts(self):
        state = (Z, some_lengths(Z), (1, 4), (0, 2, 5))
        for pair in combinations(range(40), 2):
            if pair not in Z[1]:
                self.check(state, ("exchange", pair), InvalidCut)
            if pair not in ((0, 2), (2, 5)):
                self.check(state, ("walk", pair), InvalidCut)
        # A cut with one corner of the seat is not enough, be it the lesser one or the greater one.
        self.check((FAN, some_lengths(FAN), (1, 4), (0, 1, 2)), ("walk", (0, 3)), InvalidCut)
        self.check((fan(6, 5), some_lengths(fan(6, 5)), (1, 4), (0, 1, 5)), ("walk", (2, 5)), InvalidCut)
        self.check(THREE, ("exchange", (0, 2)), InvalidCut)
        self.check(THREE, ("walk", (0, 2)), InvalidCut)

    def test_corners(self):
        state = (Z, some_lengths(Z), (1, 4), (0, 2, 5))
        for corner in (6, 7, 39):
            self.check(state, ("scale", corner, (1, 2)), InvalidCorner)
            self.check(state, ("clip", corner), InvalidCorner)
            for one in (0, 5, corner):
                self.check(state, ("aim", one, corner), InvalidCorner)
                self.check(state, ("aim", corner, one), InvalidCorner)
        for corner in range(6):
            self.check(state, ("aim", corner, corner), InvalidCorner)

    def test_sides(self):
        for state in (ONE, THREE, next(states_of(FAN)), next(states_of(zigzag(40)))):
            sides = state[0][0]
            for low, high in combinations(range(40), 2):
                step = ("grow", (low, high), (1, 2), (1, 3))
                if high < sides and (high == low + 1 or (low, high) == (0, sides - 1)):
                    if sides == 40:
                        self.check(state, step, TooMany)
                    else:
                        self.assertIs(is_state(led_by(state, step)), True)
                else:
                    self.check(state, step, InvalidSide)

    def test_clipping(self):
        lengths = some_lengths(Z)
        for corner in (0, 2, 3, 5):
            # More than one piece comes ahead of what is held.
            self.check((Z, lengths, (corner, 5) if corner < 5 else (0, 5), (0, 2, 5)), ("clip", corner), NoEar)
        for corner in range(3):
            self.check(THREE, ("clip", corner), NoEar)
        self.check((Z, lengths, (1, 4), (0, 2, 5)), ("clip", 1), Held)
        self.check((Z, lengths, (1, 4), (0, 2, 5)), ("clip", 4), Held)
        self.check((Z, lengths, (0, 5), (0, 1, 2)), ("clip", 1), Held)
        self.check((Z, lengths, (0, 1), (0, 1, 2)), ("clip", 1), Held)
        self.assertIs(is_state(led_by((Z, lengths, (0, 5), (0, 1, 2)), ("clip", 4))), True)
        self.assertIs(is_state(led_by((Z, lengths, (0, 3), (2, 3, 5)), ("clip", 1))), True)

    def test_steps_are_looked_at_first(self):
        for step in (("scale", 9, (2, 4)), ("grow", (0, 2), (1, 1), (0, 1)), ("exchange", (9, 3)), ("clip", 40), ("aim", 1, 40)):
            self.check(ONE, step, InvalidStep)
