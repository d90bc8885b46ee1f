"""Cuttings, lengths and scripts, written as texts and read from them."""

from eightworlds.errors import InvalidText
from eightworlds.lengths import fit_lengths, need_lengths
from eightworlds.polygons import MOST_SIDES, is_cutting, need_cutting
from eightworlds.states import KINDS, MOST_STEPS, is_script, need_script

DIGITS = "0123456789"
# Python itself writes and reads no very long integers at once; so they are taken by so many digits.
PLACES = 64
BASE = 10 ** 64
# Corners, sides and steps of turning have no more digits.
MOST_DIGITS = 2


def integer_text(number):
    """Return an integer from 0 on as it is written."""
    words = []
    while number >= BASE:
        number, rest = divmod(number, BASE)
        words.append(str(rest).zfill(PLACES))
    words.append(str(number))
    return "".join(words[::-1])


def integer_in(word):
    """Return the integer from 0 on that is written so, or None."""
    if word == "" or not all([sign in DIGITS for sign in word]) or (word[0] == "0" and word != "0"):
        return None
    parts = [int(word[max(end - PLACES, 0):end]) for end in range(len(word), 0, -PLACES)]
    base = BASE
    while len(parts) > 1:
        parts = [low + high * base for low, high in zip(parts[::2], parts[1::2] + [0])]
        base = base * base
    return parts[0]


def small_in(word):
    """Return the integer from 0 on that is written so with few digits, or None."""
    return integer_in(word) if len(word) <= MOST_DIGITS else None


def pair_text(pair):
    """Return a pair of corners as it is written."""
    return f"{pair[0]}-{pair[1]}"


def pair_in(word):
    """Return the pair of corners that is written so, with None for what is no integer."""
    low, _, high = word.partition("-")
    return (small_in(low), small_in(high))


def share_text(share):
    """Return a fraction above nought as it is written."""
    top = integer_text(share[0])
    return top if share[1] == 1 else f"{top}/{integer_text(share[1])}"


def share_in(word):
    """Return the pair that is written so as a fraction is, with None for what is no integer; or None."""
    top, stroke, below = word.partition("/")
    if below == "1":
        return None
    return (integer_in(top), 1 if stroke == "" else integer_in(below))


def steps_in(word):
    """Return the integer, perhaps below 0, that is written so, or None."""
    number = small_in(word.removeprefix("-"))
    if number is None or not word.startswith("-"):
        return number
    return None if number == 0 else -number


def item_text(kind, item):
    """Return an item of a step of such a kind as it is written."""
    if kind == "pair":
        return pair_text(item)
    return share_text(item) if kind == "share" else str(item)


def item_in(kind, word):
    """Return the item of such a kind that is written so, or None."""
    if kind == "pair":
        return pair_in(word)
    if kind == "share":
        return share_in(word)
    return steps_in(word) if kind == "steps" else small_in(word)


def step_text(step):
    """Return a step as it is written."""
    return " ".join([step[0]] + [item_text(kind, item) for kind, item in zip(KINDS[step[0]], step[1:])])


def step_in(line):
    """Return the step that is written so, or None; what is read may be no step all the same."""
    words = line.split(" ")
    if words[0] not in KINDS or len(words) != len(KINDS[words[0]]) + 1:
        return None
    items = [item_in(kind, word) for kind, word in zip(KINDS[words[0]], words[1:])]
    return (words[0],) + tuple(items)


def need_text(value):
    """Raise InvalidText for what is no string."""
    if not isinstance(value, str):
        raise InvalidText("a text is needed")


def cutting_text(cutting):
    """Return a cutting as it is written."""
    need_cutting(cutting)
    return " ".join([f"{cutting[0]}:"] + [pair_text(cut) for cut in cutting[1]])


def lengths_text(cutting, lengths):
    """Return lengths of a cutting as they are written."""
    need_cutting(cutting)
    need_lengths(cutting, lengths)
    return " ".join([share_text(share) for share in lengths])


def script_text(script):
    """Return a script as it is written."""
    need_script(script)
    return "\n".join([step_text(step) for step in script])


def read_cutting(text):
    """Return the cutting that is written so."""
    need_text(text)
    # No more words are read than can be too many.
    words = text.split(" ")[:MOST_SIDES]
    cutting = (small_in(words[0].removesuffix(":")), tuple([pair_in(word) for word in words[1:]]))
    if not words[0].endswith(":") or not is_cutting(cutting):
        raise InvalidText("the text of a cutting is needed")
    return cutting


def read_lengths(cutting, text):
    """Return the lengths of a cutting that are written so."""
    need_cutting(cutting)
    need_text(text)
    many = 2 * cutting[0] - 3
    lengths = tuple([share_in(word) for word in text.split(" ")[:many + 1]])
    if not fit_lengths(cutting, lengths):
        raise InvalidText("the text of lengths of the cutting is needed")
    return lengths


def read_script(text):
    """Return the script that is written so."""
    need_text(text)
    script = tuple([step_in(line) for line in text.split("\n")[:MOST_STEPS + 1]]) if text else ()
    if not is_script(script):
        raise InvalidText("the text of a script is needed")
    return script
