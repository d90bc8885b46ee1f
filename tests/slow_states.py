"""Steps on states, done by the words of the document, with fractions."""

from fractions import Fraction
from itertools import combinations

from tests import helpers
from tests.test_lengths import pair, some_lengths


def lengths_of(state):
    """The lengths of a state by the ties, as fractions."""
    return {tie: Fraction(*share) for tie, share in zip(helpers.slow_ties(state[0]), state[1])}


def made_state(sides, own, line, seat):
    """The state with these lengths by the ties; what is unsorted is put in order."""
    own = {tuple(sorted(tie)): share for tie, share in own.items()}
    cuts = tuple(sorted(tie for tie in own if tie in helpers.all_cuts(sides)))
    assert len(own) == 2 * sides - 3 and len(cuts) == sides - 3
    lengths = tuple(pair(own[tie]) for tie in sorted(own))
    return ((sides, cuts), lengths, tuple(sorted(line)), tuple(sorted(seat)))


def renumbered(sides, own, line, seat, number):
    """The state in which each corner has got another number."""
    return made_state(
        sides, {(number(a), number(b)): share for (a, b), share in own.items()}, [number(corner) for corner in line],
        [number(corner) for corner in seat],
    )


def slow_led(state, step):
    """The state behind a step that can be done."""
    cutting, lengths, line, seat = state
    sides, word, own = cutting[0], step[0], lengths_of(state)
    if word == "exchange":
        cut = step[1]
        new = helpers.slow_exchange(cutting, cut)[0]
        a, b, c, d = sorted(cut + new)
        old = [piece for piece in helpers.slow_pieces(cutting) if set(cut) <= set(piece)]
        now = [tuple(sorted(new + (corner,))) for corner in cut]
        if seat in old:
            low = {a, b} <= set(seat)
            seat = next(piece for piece in now if ({a, b} <= set(piece)) == low)
        length = (own[a, b] * own[c, d] + own[b, c] * own[a, d]) / own.pop(cut)
        return made_state(sides, {**own, new: length}, line, seat)
    if word == "turn":
        return renumbered(sides, own, line, seat, lambda corner: (corner + step[1]) % sides)
    if word == "mirror":
        return renumbered(sides, own, line, seat, lambda corner: (0 - corner) % sides)
    if word == "scale":
        share = Fraction(*step[2])
        return made_state(sides, {tie: old * share if step[1] in tie else old for tie, old in own.items()}, line, seat)
    if word == "walk":
        both = [piece for piece in helpers.slow_pieces(cutting) if set(step[1]) <= set(piece)]
        return (cutting, lengths, line, next(piece for piece in both if piece != seat))
    if word == "aim":
        return (cutting, lengths, tuple(sorted(step[1:])), seat)
    if word == "grow":
        low, high = step[1]
        new = low + 1 if (low, high) != (0, sides - 1) else sides
        own = {(grown(a, new), grown(b, new)): share for (a, b), share in own.items()}
        own[low, new], own[grown(high, new), new] = Fraction(*step[2]), Fraction(*step[3])
        return made_state(sides + 1, own, [grown(corner, new) for corner in line], [grown(corner, new) for corner in seat])
    corner = step[1]
    left = {tie: share for tie, share in own.items() if corner not in tie}
    return renumbered(sides - 1, left, line, seat, lambda other: other if other < corner else other - 1)


def grown(corner, new):
    """The number of a corner behind growing."""
    return corner if corner < new else corner + 1


def every_step(state):
    """Steps of all kinds that can be done on a state."""
    (sides, cuts), _, line, seat = state
    yield from [("exchange", cut) for cut in cuts]
    yield from [("turn", steps) for steps in (0, 1, -1, 2, sides, 40, -40)]
    yield ("mirror",)
    yield from [("scale", corner, share) for corner in range(sides) for share in ((1, 1), (2, 3), (1000, 1))]
    yield from [("walk", cut) for cut in cuts if set(cut) <= set(seat)]
    yield from [("aim", one, other) for one in range(sides) for other in range(sides) if one != other]
    around = [tuple(sorted((corner, (corner + 1) % sides))) for corner in range(sides)]
    if sides < 40:
        yield from [("grow", side, (2, 3), (5, 1)) for side in around]
    if sides > 3:
        for corner in range(sides):
            if not any(corner in some for some in list(cuts) + [line, seat]):
                yield ("clip", corner)


def states_of(cutting, every=1):
    """States with a cutting: for some lengths, some lines and all pieces."""
    lines = list(combinations(range(cutting[0]), 2))
    for at, seat in enumerate(helpers.slow_pieces(cutting)):
        for line in lines[at % every::every]:
            yield (cutting, some_lengths(cutting, at + 1), line, seat)


ONE = (helpers.Q, ((1, 1),) * 5, (1, 3), (0, 1, 2))
LITTLE_STATES = [state for cutting in helpers.LITTLE for state in states_of(cutting, 5)]
GREAT_STATES = [next(states_of(cutting)) for cutting in helpers.GREAT] + [list(states_of(helpers.zigzag(40), 97))[20]]
