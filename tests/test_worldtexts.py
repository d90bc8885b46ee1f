"""Point 96: texts."""

from unittest import TestCase

from eightworlds.errors import InvalidCutting, InvalidLengths, InvalidScript, InvalidText, WorldError
from eightworlds.exchanges import fan_way
from eightworlds.states import all_led, is_script
from eightworlds.worldtexts import cutting_text, lengths_text, read_cutting, read_lengths, read_script, script_text
from tests import helpers
from tests.calls_states import CUTTING_TEXTS, LENGTHS_TEXTS, NO_STEPS, SCRIPT_TEXTS, SCRIPT_VALUE, TEXTS
from tests.helpers import GREAT, P, Q, SMALL, TRIANGLE, fan, halved, zigzag
from tests.slow_states import GREAT_STATES, LITTLE_STATES, every_step
from tests.test_lengths import some_lengths

SIGNS = " \n-/:0123456789aeimrtuwx+\t\r.\u0662\u00b2\u00a0"


def spoilt(text):
    """Texts that come of one by a sign more, one less, another one, or two changed about."""
    for at in range(len(text) + 1):
        for sign in SIGNS:
            yield text[:at] + sign + text[at:]
            yield text[:at] + sign + text[at + 1:]
        yield text[:at] + text[at + 1:]
        yield text[:at] + text[at + 1:at + 2] + text[at:at + 1] + text[at + 2:]
    yield from (text * 2, text + "\n" + text, text.upper(), text[::-1], text[1:-1], text.replace(" ", "  "), text.replace("-", " - "))


class Texts(TestCase):
    def check(self, text, read, write, *ahead):
        """Check that any text is either refused, or just what is written for what is read."""
        try:
            told = read(*ahead, text)
        except InvalidText as error:
            self.assertIs(error.__class__, InvalidText)
            return False
        self.assertEqual(write(*ahead, told), text)
        return True

    def refused(self, texts, read, *ahead):
        for text in texts:
            with self.assertRaises(InvalidText):
                read(*ahead, text)


class Cuttings(Texts):
    def test_there_and_back(self):
        for cutting in SMALL + GREAT:
            text = cutting_text(cutting)
            self.assertEqual(text, f"{cutting[0]}:" + "".join(f" {low}-{high}" for low, high in cutting[1]))
            self.assertEqual(read_cutting(text), cutting)
        self.assertEqual((cutting_text(TRIANGLE), read_cutting("3:")), ("3:", TRIANGLE))

    def test_what_is_none(self):
        self.refused(TEXTS + CUTTING_TEXTS, read_cutting)

    def test_spoilt_ones(self):
        for cutting in (TRIANGLE, Q, P, helpers.Z, fan(12), zigzag(13)):
            read = [text for text in set(spoilt(cutting_text(cutting))) if self.check(text, read_cutting, cutting_text)]
            self.assertTrue(read or cutting == TRIANGLE)
        for cutting in (zigzag(40), fan(40), halved(40)):
            for text in list(spoilt(cutting_text(cutting)))[::41]:
                self.check(text, read_cutting, cutting_text)

    def test_errors(self):
        for wrong in helpers.WRONG_CUTTINGS:
            with self.assertRaises(InvalidCutting):
                cutting_text(wrong)


class Lengths(Texts):
    def test_there_and_back(self):
        for cutting in SMALL[::3] + GREAT:
            for seed in (1, 4):
                lengths = some_lengths(cutting, seed)
                words = [str(top) if below == 1 else f"{top}/{below}" for top, below in lengths]
                self.assertEqual(lengths_text(cutting, lengths), " ".join(words))
                self.assertEqual(read_lengths(cutting, " ".join(words)), lengths)

    def test_great_integers(self):
        great = helpers.GREAT_INT
        lengths = ((great, 1), (1, great), (great - 1, great), (10 ** 119, 3), (1, 1))
        text = f"{great} 1/{great} {great - 1}/{great} {10 ** 119}/3 1"
        self.assertEqual((lengths_text(Q, lengths), read_lengths(Q, text)), (text, lengths))
        for digits in (63, 64, 65, 127, 128, 129, 640, 4299, 4300, 4301, 9000):
            # Python itself refuses to write, or to read, more than 4300 digits.
            for number in (10 ** digits, 10 ** digits - 1, 10 ** digits + 7, 7 * 10 ** digits):
                lengths = ((number, 1), (1, number), (1, 1), (number + 1, number), (2, 1))
                text = lengths_text(Q, lengths)
                self.assertEqual(len(text.split(" ")[0]), digits if number < 10 ** digits else digits + 1)
                self.assertEqual(read_lengths(Q, text), lengths)
        self.assertTrue(lengths_text(TRIANGLE, ((10 ** 5000 + 1, 1),) * 3).startswith("1" + "0" * 4999 + "1 1"))

    def test_behind_many_exchanges(self):
        state = (zigzag(40), tuple((10 ** 119 + 2 * at, 10 ** 119 + 2 * at + 1) for at in range(77)), (0, 1), (0, 1, 39))
        # Each exchange brings a line from the corner 0 that crossed one cut more of the zigzag.
        state = all_led(state, tuple(("exchange", cut) for cut in fan_way(state[0])[:12]))[-1]
        self.assertGreater(max(max(share) for share in state[1]), 10 ** 4300)
        text = lengths_text(state[0], state[1])
        self.assertEqual(read_lengths(state[0], text), state[1])

    def test_what_is_none(self):
        self.refused(TEXTS + LENGTHS_TEXTS, read_lengths, P)

    def test_spoilt_ones(self):
        for cutting, lengths in ((TRIANGLE, ((1, 1), (2, 3), (10, 1))), (Q, some_lengths(Q)), (P, ((1, 2),) * 7)):
            text = lengths_text(cutting, lengths)
            read = [one for one in set(spoilt(text)) if self.check(one, read_lengths, lengths_text, cutting)]
            self.assertTrue(read)
            for other in (TRIANGLE, Q, P):
                if other != cutting:
                    self.refused([text], read_lengths, other)

    def test_errors(self):
        for wrong in helpers.WRONG_CUTTINGS[::3]:
            with self.assertRaises(InvalidCutting):
                read_lengths(wrong, None)
            with self.assertRaises(InvalidCutting):
                lengths_text(wrong, None)
        with self.assertRaises(InvalidLengths):
            lengths_text(P, ((1, 1),) * 6)


class Scripts(Texts):
    def test_there_and_back(self):
        def item(value):
            if isinstance(value, tuple):
                return f"{value[0]}-{value[1]}"
            return str(value)

        for state in LITTLE_STATES[::9] + GREAT_STATES[:6]:
            steps = list(every_step(state))
            for at in range(0, len(steps), 12):
                script = tuple(steps[at:at + 12])
                text = script_text(script)
                self.assertEqual(read_script(text), script)
                for line, step in zip(text.split("\n"), script):
                    if step[0] not in ("scale", "grow"):
                        self.assertEqual(line, " ".join(map(item, step)))
        self.assertEqual(script_text((("scale", 3, (2, 1)), ("scale", 0, (2, 3)))), "scale 3 2\nscale 0 2/3")
        self.assertEqual(script_text((("grow", (0, 5), (1000, 1), (1, 1000)),)), "grow 0-5 1000 1/1000")
        self.assertEqual(script_text((("turn", -40), ("turn", 0), ("mirror",))), "turn -40\nturn 0\nmirror")

    def test_no_steps(self):
        self.assertEqual((script_text(()), read_script("")), ("", ()))

    def test_what_is_none(self):
        self.refused([value for value in TEXTS if value != ""] + SCRIPT_TEXTS, read_script)

    def test_spoilt_ones(self):
        for script in (SCRIPT_VALUE, (("turn", -10), ("walk", (3, 10))), (("aim", 10, 2),), (("mirror",),), (("clip", 30),)):
            self.assertIs(is_script(script), True)
            read = [text for text in set(spoilt(script_text(script))) if self.check(text, read_script, script_text)]
            self.assertTrue(read)
        for text in spoilt(""):
            self.check(text, read_script, script_text)

    def test_errors(self):
        for step in NO_STEPS:
            with self.assertRaises(InvalidScript):
                script_text((step,))
        for wrong in ((("mirror",),) * 13, [("mirror",)], None, "mirror"):
            with self.assertRaises(InvalidScript):
                script_text(wrong)


class Wrong(TestCase):
    def test_texts_alone(self):
        for value in helpers.OTHERS + helpers.INTS + [b"3:", ["3:"], ("3:",), {}, 1.5]:
            if not isinstance(value, str):
                for call in (read_cutting, read_script, lambda text: read_lengths(P, text)):
                    with self.assertRaises(InvalidText):
                        call(value)
        with self.assertRaises(WorldError):
            read_cutting(None)
