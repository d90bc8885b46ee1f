"""States: cuttings with lengths, a line and a seat, and the steps from one to another."""

from eightworlds.basics import are_ints, is_between, need_few
from eightworlds.errors import Held, InvalidCut, InvalidScript, InvalidSide, InvalidState, InvalidStep, NoEar
from eightworlds.exchanges import cut_behind
from eightworlds.lengths import fit_lengths, span_behind, spans_by
from eightworlds.polygons import MOST_SIDES, counts_by_cuts, is_cutting, need_corner, need_cut, pieces
from eightworlds.reaches import (
    corners_numbered, cutting_by_ties, is_share, lengths_by, need_unlike_corners, numbers_turned, spans_numbered,
    spans_scaled
)
from eightworlds.snakes import is_line

MOST_TURN = 40
MOST_STEPS = 12
# For each word of a step, of what kinds the items behind it are.
KINDS = {
    "exchange": ("pair",), "turn": ("steps",), "mirror": (), "scale": ("corner", "share"), "walk": ("pair",),
    "aim": ("corner", "corner"), "grow": ("pair", "share", "share"), "clip": ("corner",),
}


def is_state(value):
    """Return whether any value is a state."""
    if not isinstance(value, tuple) or len(value) != 4:
        return False
    cutting, lengths, line, seat = value
    if not is_cutting(cutting) or not fit_lengths(cutting, lengths) or not is_line(cutting, line):
        return False
    return are_ints(seat, 3) and seat in pieces(cutting)


def is_item(kind, value):
    """Return whether any value is an item of a step of such a kind."""
    if kind == "share":
        return is_share(value)
    if kind == "steps":
        return is_between(value, -MOST_TURN, MOST_TURN)
    if kind == "corner":
        return is_between(value, 0, MOST_SIDES - 1)
    return are_ints(value, 2) and 0 <= value[0] < value[1] < MOST_SIDES


def is_step(value):
    """Return whether any value is a step."""
    if not isinstance(value, tuple) or len(value) == 0 or not isinstance(value[0], str) or value[0] not in KINDS:
        return False
    kinds = KINDS[value[0]]
    return len(value) == len(kinds) + 1 and all([is_item(kind, item) for kind, item in zip(kinds, value[1:])])


def is_script(value):
    """Return whether any value is a script."""
    return isinstance(value, tuple) and len(value) <= MOST_STEPS and all([is_step(step) for step in value])


def need_state(value):
    """Raise InvalidState for what is no state."""
    if not is_state(value):
        raise InvalidState("a state is needed")


def need_step(value):
    """Raise InvalidStep for what is no step."""
    if not is_step(value):
        raise InvalidStep("a step is needed")


def need_script(value):
    """Raise InvalidScript for what is no script."""
    if not is_script(value):
        raise InvalidScript(f"a tuple of at most {MOST_STEPS} steps is needed")


def state_by(sides, spans, line, seat):
    """Return the state with these lengths by the ties, and this line and seat."""
    return (cutting_by_ties(sides, spans), lengths_by(spans), line, seat)


def spans_of(state):
    """Return the lengths of a state by the ties."""
    return spans_by(state[0], state[1])


def all_numbered(state, numbers):
    """Return a state all of whose corners have got other numbers."""
    cutting, _, line, seat = state
    spans = spans_numbered(spans_of(state), numbers)
    return state_by(cutting[0], spans, corners_numbered(line, numbers), corners_numbered(seat, numbers))


def seat_behind(seat, cut, new):
    """Return the seat behind the exchange of a cut."""
    if cut[0] not in seat or cut[1] not in seat:
        return seat
    corners = sorted(cut + new)
    # The new piece goes with the old one that has the two least corners, or the two greatest ones, as it has.
    kept = corners[:2] if corners[0] in seat and corners[1] in seat else corners[2:]
    return tuple(sorted(set(list(new) + kept)))


def cut_exchanged(state, step):
    """Return the state behind the exchange of a cut."""
    _, cut = step
    cutting, _, line, seat = state
    need_cut(cutting, cut)
    spans = spans_of(state)
    new, share = span_behind(cutting, spans, cut)
    rest = {tie: own for tie, own in spans.items() if tie != cut}
    return state_by(cutting[0], {**rest, new: share}, line, seat_behind(seat, cut, new))


def all_turned(state, step):
    """Return a state turned by some steps."""
    _, steps = step
    return all_numbered(state, numbers_turned(state[0][0], 1, steps))


def all_mirrored(state, step):
    """Return the mirror image of a state."""
    return all_numbered(state, numbers_turned(state[0][0], -1, 0))


def corner_scaled(state, step):
    """Return a state with the lengths of all ties with a corner taken times a share."""
    _, corner, share = step
    cutting, _, line, seat = state
    need_corner(cutting[0], corner)
    return state_by(cutting[0], spans_scaled(spans_of(state), corner, share), line, seat)


def seat_walked(state, step):
    """Return a state with the seat on the other piece that has a cut of it."""
    _, cut = step
    cutting, lengths, line, seat = state
    need_cut(cutting, cut)
    if cut[0] not in seat or cut[1] not in seat:
        raise InvalidCut("a cut of the seat is needed")
    beside = [piece for piece in pieces(cutting) if cut[0] in piece and cut[1] in piece and piece != seat]
    return (cutting, lengths, line, beside[0])


def line_aimed(state, step):
    """Return a state with the line of two corners."""
    _, one, other = step
    cutting, lengths, _, seat = state
    need_unlike_corners(cutting[0], one, other)
    return (cutting, lengths, (min(one, other), max(one, other)), seat)


def corner_between(side):
    """Return the number of a new corner between both of a side."""
    low, high = side
    # Both corners of the side of the first and the last corner have others between them.
    return high if high == low + 1 else high + 1


def side_grown(state, step):
    """Return a state with a new corner between the two of a side."""
    _, side, one, other = step
    cutting, _, line, seat = state
    sides = cutting[0]
    low, high = side
    if side != (0, sides - 1) and (high != low + 1 or high >= sides):
        raise InvalidSide("a side of the polygon is needed")
    need_few(sides + 1, MOST_SIDES)
    new = corner_between(side)
    numbers = [corner if corner < new else corner + 1 for corner in range(sides)]
    above = (min(numbers[high], new), max(numbers[high], new))
    rest = spans_numbered(spans_of(state), numbers)
    spans = {**rest, (low, new): one, above: other}
    return state_by(sides + 1, spans, corners_numbered(line, numbers), corners_numbered(seat, numbers))


def corner_clipped(state, step):
    """Return a state in which a corner with one piece alone is taken away."""
    _, corner = step
    cutting, _, line, seat = state
    sides, cuts = cutting
    need_corner(sides, corner)
    if counts_by_cuts(sides, cuts)[corner] > 1 or sides == 3:
        raise NoEar("a corner with one piece alone is needed, and more than three sides")
    if corner in line or corner in seat:
        raise Held("the line or the seat has the corner")
    numbers = [other if other < corner else other - 1 for other in range(sides)]
    spans = {tie: own for tie, own in spans_of(state).items() if corner not in tie}
    return state_by(
        sides - 1, spans_numbered(spans, numbers), corners_numbered(line, numbers), corners_numbered(seat, numbers)
    )


ACTIONS = {
    "exchange": cut_exchanged, "turn": all_turned, "mirror": all_mirrored, "scale": corner_scaled, "walk": seat_walked,
    "aim": line_aimed, "grow": side_grown, "clip": corner_clipped,
}


def state_behind(state, step):
    """Return the state behind a step, or raise its error; both are known to be such."""
    action = ACTIONS[step[0]]
    return action(state, step)


def led_by(state, step):
    """Return the state behind a step."""
    need_state(state)
    need_step(step)
    return state_behind(state, step)


def states_along(state, script):
    """Return the list of a state, and of the states behind each step of a script; both are known to be such."""
    found = [state]
    for step in script:
        found.append(state_behind(found[-1], step))
    return found


def all_led(state, script):
    """Return the list of a state, and of the states behind each step of a script."""
    need_state(state)
    need_script(script)
    return states_along(state, script)


def step_back(state, step):
    """Return the step that leads back from the state behind a step, or None."""
    # All errors come of the step itself.
    led_by(state, step)
    word = step[0]
    if word == "exchange":
        return (word, cut_behind(state[0], step[1]))
    if word == "turn":
        return (word, -step[1])
    if word == "scale":
        return (word, step[1], step[2][::-1])
    if word == "aim":
        return (word,) + state[2]
    if word == "grow":
        return ("clip", corner_between(step[1]))
    # The same mirrors back, or walks back; what has been clipped could have had lengths that are no shares.
    return None if word == "clip" else step
