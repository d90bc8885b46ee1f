"""The functions over reaches, states, tellings and texts, as in the table of `calls`."""

from eightworlds import errors, reaches, states, tellings, worldtexts
from tests import helpers
from tests.calls import ANY, CUTTING, SIDES
from tests.calls_lines import GREAT_ONES, LENGTHS
from tests.helpers import P, Q, fan

ONES = ((1, 1),) * 7
CORNER = (errors.InvalidCorner, helpers.wrong_ints(0, 4))
SHARE = (errors.InvalidShare, helpers.OTHERS + helpers.INTS + list(helpers.spoiled((2, 3))) + [
    (2, 4), (0, 1), (1, 0), (-1, 2), (1, -2), (1001, 1), (1, 1001), (2, 3, 1), (True, 1), (1, True), [1, 2], (1000, 1000),
])


def has_great_ones(value):
    """Whether what is almost a state has lengths that have only become great."""
    spoilt = isinstance(value, tuple) and len(value) == 4 and isinstance(value[1], tuple)
    return spoilt and any(great in value[1] for great in GREAT_ONES)


STATE_VALUE = (Q, ((1, 1),) * 5, (1, 3), (0, 1, 2))
STATE = (errors.InvalidState, helpers.OTHERS + helpers.INTS + [
    value for value in helpers.spoiled(STATE_VALUE) if not has_great_ones(value)
] + [
    STATE_VALUE[:3], STATE_VALUE + (None,), STATE_VALUE[::-1], (P,) + STATE_VALUE[1:], (Q, ((1, 1),) * 4) + STATE_VALUE[2:],
    (Q, ((1, 1),) * 6) + STATE_VALUE[2:], (Q, ((2, 2),) * 5) + STATE_VALUE[2:], (Q, ((0, 1),) * 5) + STATE_VALUE[2:],
    STATE_VALUE[:2] + ((3, 1), (0, 1, 2)), STATE_VALUE[:2] + ((1, 1), (0, 1, 2)), STATE_VALUE[:2] + ((1, 4), (0, 1, 2)),
    STATE_VALUE[:3] + ((0, 1, 3),), STATE_VALUE[:3] + ((2, 1, 0),), STATE_VALUE[:3] + ((0, 1),), STATE_VALUE[:3] + ([0, 1, 2],),
    STATE_VALUE[:3] + ((False, 1, 2),), list(STATE_VALUE),
])
NO_STEPS = [
    (), ("exchange",), ("exchange", 0, 2), ("exchange", (2, 0)), ("exchange", (0, 40)), ("exchange", (-1, 2)), ("exchange", [0, 2]),
    ("exchange", (0, 0)), ("exchange", (0, 2), 1), ("exchange", (False, 2)), ("exchange", (0, 2, 3)), ["exchange", (0, 2)], ("Exchange", (0, 2)),
    ("turn",), ("turn", 41), ("turn", -41), ("turn", True), ("turn", None), ("turn", (1,)), ("turn", 1, 1), ("turn", "1"), ("turn", 1.0),
    ("mirror", 1), ("mirror", None), "mirror", ["mirror"], ("mirrored",), (("mirror",),), ("mirror ",),
    ("scale", 1), ("scale", 40, (2, 3)), ("scale", -1, (2, 3)), ("scale", 1, (2, 4)), ("scale", 1, (0, 1)), ("scale", 1, (1001, 1)),
    ("scale", 1, (1, 1001)), ("scale", 1, 2), ("scale", (1,), (2, 3)), ("scale", True, (2, 3)), ("scale", 1, [2, 3]), ("scale", 1, (2, 3), 1),
    ("walk",), ("walk", (2, 0)), ("walk", 0), ("walk", (0, 40)), ("aim", 0), ("aim", 0, 40), ("aim", -1, 2), ("aim", (0, 2)), ("aim", 0, True),
    ("aim", 0, 2, 3), ("grow", (0, 1), (1, 1)), ("grow", (1, 0), (1, 1), (1, 1)), ("grow", (0, 1), (1, 1), (2, 2)), ("grow", (0, 40), (1, 1), (1, 1)),
    ("grow", (0, 1), (0, 1), (1, 1)), ("grow", (0, 1), (1, 1), 1), ("grow", 0, (1, 1), (1, 1)), ("grow", (0, 1), (1, 1), (1, 1), (1, 1)),
    ("clip",), ("clip", 40), ("clip", -1), ("clip", True), ("clip", (1,)), ("clip", 1, 1), ("", 1), (None, 1), (1, "clip"), ("clip", None),
    ([], 1), ({}, 1), ((), 1), ("down",), ("lengths", 1),
]
STEP = (errors.InvalidStep, helpers.OTHERS + helpers.INTS + NO_STEPS)
SCRIPT_VALUE = (("exchange", (0, 2)), ("scale", 1, (2, 3)), ("grow", (1, 2), (1, 2), (3, 1)), ("turn", -1), ("mirror",), ("clip", 1))
SCRIPT = (errors.InvalidScript, helpers.OTHERS + helpers.INTS + [step for step in NO_STEPS if step not in ((), (("mirror",),))] + [(step,) for step in NO_STEPS] + [
    SCRIPT_VALUE[:2] + (step,) for step in NO_STEPS[::4]
] + [(("mirror",),) * 13, (("mirror",),) * 400, [("mirror",)], list(SCRIPT_VALUE), ("mirror",)])
FACTS = (errors.InvalidFacts, helpers.OTHERS + helpers.INTS + [
    (("tie", 0, 2),), (("tie", 0, True),), (("tie",),), (("ear",),), (("ear", True),), (("tie", 2, 0, True),), (("tie", 0, 0, True),), (("tie", 0, 5, True),), (("tie", -1, 2, True),), (("tie", 0, 2, 1),),
    (("tie", 0, 2, None),), (("tie", 0, 2, True, True),), (("tie", (0, 2), True),), (("tie", False, 2, True),), (("count", 0),),
    (("count", 5, 1),), (("count", 0, 41),), (("count", 0, -1),), (("count", 0, True),), (("count", True, 1),), (("count", 0, 1, 1),),
    (("count", 0, 1, True),), (("ear", 0),), (("ear", 5, True),), (("ear", 0, 1),), (("ear", 0, None),), (("ear", 0, 1, True),), (("ear", -1, True),),
    (("Ear", 0, True),), (("", 0, True),), ((None, 0, True),), (["ear", 0, True],), [("ear", 0, True)], ("ear", 0, True), (("ear", 0, True),) * 9,
    (("ear", 0, True), None), ((),), (([], 0, True),),
])
CUTTING_TEXTS = [
    "", " ", "5", "5:", "5: ", " 5: 0-2 0-3", "5: 0-2 0-3 ", "5:  0-2 0-3", "5: 0-2  0-3", "5:0-2 0-3", "5 : 0-2 0-3", "5: 0-3 0-2", "5: 0-2",
    "5: 0-2 0-2", "5: 0-2 1-3", "05: 0-2 0-3", "5: 00-2 0-3", "5: 0-02 0-3", "+5: 0-2 0-3", "5: 0-+2 0-3", "5: -0-2 0-3", "5: 0--2 0-3",
    "5: 0 -2 0-3", "5: 0- 2 0-3", "5: 2-0 0-3", "5: 0-2,0-3", "5: 0-2\n0-3", "5: 0-2 0-3\n", "\n5: 0-2 0-3", "5: 0-2\t0-3", "5; 0-2 0-3", "2:", "41:",
    "3: ", "3", ":", "4: 0-2 0-2", "4: 0-1", "4: 0-3", "4: 0-4", "\u0664: 0-2", "4: 0-\u0662", "4: 0-\u00b2", "\uff14: 0-2", "4: 0\u20112", "4:\u00a00-2",
    "4: 0-2-3", "4: (0, 2)", "4: 0_0-2", "4: 0-2.0", "4: 0-2 ", "Q", "4: a-b", "1" * 1000, "5: " + "0-2 " * 200, "9" * 400 + ": 0-2", "0" * 998 + "3:",
    "3:" * 300, "3:\r",
]
LENGTHS_TEXTS = [
    "", " ", "1 1 1 1 1 1", "1 1 1 1 1 1 1 1", " 1 1 1 1 1 1 1", "1 1 1 1 1 1 1 ", "1  1 1 1 1 1 1", "1 1 1 1 1 1 1\n", "1\n1 1 1 1 1 1", "1/1 1 1 1 1 1 1",
    "2/4 1 1 1 1 1 1", "0 1 1 1 1 1 1", "0/1 1 1 1 1 1 1", "1/0 1 1 1 1 1 1", "-1 1 1 1 1 1 1", "1/-2 1 1 1 1 1 1", "+1 1 1 1 1 1 1", "01 1 1 1 1 1 1",
    "1/02 1 1 1 1 1 1", "01/2 1 1 1 1 1 1", "1/2/3 1 1 1 1 1 1", "/2 1 1 1 1 1 1", "1/ 1 1 1 1 1 1", "1 /2 1 1 1 1 1", "1.5 1 1 1 1 1 1", "1_0 1 1 1 1 1 1",
    "\u0661 1 1 1 1 1 1", "1/\u0662 1 1 1 1 1 1", "\u00bd 1 1 1 1 1 1", "1\u20442 1 1 1 1 1 1", "a 1 1 1 1 1 1", "1,1,1,1,1,1,1", "(1, 1) 1 1 1 1 1 1",
    "1 " * 500, "1" * 1000, "0" * 994 + "1 1 1 1 1 1 1"[1:], "1\t1 1 1 1 1 1",
]
SCRIPT_TEXTS = [
    " ", "\n", "mirror\n", "\nmirror", "mirror ", " mirror", "Mirror", "mirror\n\nmirror", "mirror\r\nmirror", "mirror mirror", "mirror;mirror", "mirrored",
    "turn", "turn ", "turn 41", "turn -41", "turn +2", "turn -0", "turn 02", "turn -02", "turn  2", "turn 2 ", "turn 2 2", "turn --2", "turn - 2",
    "turn \u0662", "turn 2.0", "turn 2-", "turn -", "exchange", "exchange 0-40", "exchange 2-0", "exchange 0-0", "exchange 02", "exchange 0 2",
    "exchange 0-02", "exchange 0-2 ", "exchange -0-2", "exchange (0, 2)", "exchange 0--2", "walk 2-0", "walk", "walk 0-2-3", "scale 1", "scale 1 2/4",
    "scale 1 2/1", "scale 1 1001", "scale 1 1/1001", "scale 1 0", "scale 40 2", "scale -1 2", "scale 01 2", "scale 1 02", "scale 1 2/03", "scale 1 2 /3",
    "scale 1  2/3", "aim 0", "aim 0-2", "aim 0 40", "aim 0 02", "aim 0 2 3", "aim -1 2", "grow 0-1 1", "grow 1-0 1 1", "grow 0-1 1 1 1", "grow 0-1 1 1/1",
    "grow 0 1 1", "clip", "clip 40", "clip -1", "clip 01", "clip 1 1", "jump 1", "clip one", "mirror\n" * 12 + "mirror", "mirror\n" * 100 + "mirror",
    "0", "exchange 0-2 clip 1", "clip " + "1" * 900, "\u0441lip 1", "clip\u00a01", "clip\t1", "scale 1 \u0662",
]
TEXTS = [value for value in helpers.OTHERS if value not in ("", "5: 0-2 0-3")] + helpers.INTS + [b"5: 0-2 0-3", ("5: 0-2 0-3",), ["3:"], P]
CUTTING_TEXT = (errors.InvalidText, TEXTS + CUTTING_TEXTS)
LENGTHS_TEXT = (errors.InvalidText, TEXTS + LENGTHS_TEXTS)
SCRIPT_TEXT = (errors.InvalidText, TEXTS + SCRIPT_TEXTS)

STATE_CALLS = [
    (reaches.scaled, (P, ONES, 1, (2, 3)), (CUTTING, LENGTHS, CORNER, SHARE)),
    (reaches.reach, (P, ONES, 4, 1), (CUTTING, LENGTHS, CORNER, (CORNER[0], CORNER[1] + [4]))),
    (reaches.all_reaches, (P, ONES), (CUTTING, LENGTHS)),
    (states.is_state, (STATE_VALUE,), (ANY,)),
    (states.is_step, (("mirror",),), (ANY,)),
    (states.is_script, (SCRIPT_VALUE,), (ANY,)),
    (states.led_by, (STATE_VALUE, ("exchange", (0, 2))), (STATE, STEP)),
    (states.all_led, (STATE_VALUE, SCRIPT_VALUE[:5]), (STATE, SCRIPT)),
    (states.step_back, (STATE_VALUE, ("exchange", (0, 2))), (STATE, STEP)),
    (tellings.cuttings_told, (5, (("count", 0, 3), ("tie", 0, 2, True), ("ear", 1, True))), (SIDES, FACTS), (10, ()), 9),
    (tellings.surely_tied, (5, (("ear", 0, False),), 0, 2), (SIDES, FACTS, CORNER, (CORNER[0], CORNER[1] + [0])), (10, (), 0, 2), 9),
    (tellings.fewest_counts, (P,), (CUTTING,), (fan(10),), 9),
    (worldtexts.cutting_text, (P,), (CUTTING,)),
    (worldtexts.lengths_text, (P, ((2, 3),) * 7), (CUTTING, LENGTHS)),
    (worldtexts.script_text, (SCRIPT_VALUE,), (SCRIPT,)),
    (worldtexts.read_cutting, ("5: 0-2 0-3",), (CUTTING_TEXT,)),
    (worldtexts.read_lengths, (P, "1 2/3 1 1 4 1 1"), (CUTTING, LENGTHS_TEXT)),
    (worldtexts.read_script, ("mirror\nturn -2\nscale 1 2/3",), (SCRIPT_TEXT,)),
]
