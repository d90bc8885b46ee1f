"""What the tests share: cuttings, any values, and slow ways that are easy to believe."""

from itertools import combinations
from time import perf_counter

from eightworlds.errors import InvalidCutting, TooMany, WorldError

Q, P = (4, ((0, 2),)), (5, ((0, 2), (0, 3)))
H, Z, FAN = (6, ((0, 2), (0, 4), (2, 4))), (6, ((0, 2), (2, 5), (3, 5))), (6, ((0, 2), (0, 3), (0, 4)))
TRIANGLE = (3, ())


def fan(sides, corner=0):
    """The cutting all of whose cuts have a corner."""
    ends = [tuple(sorted((corner, (corner + step) % sides))) for step in range(2, sides - 1)]
    return (sides, tuple(sorted(ends)))


def zigzag(sides):
    """The cutting whose cuts go to and fro, so that the line (0, ..) crosses all of them."""
    low, high, cuts = 1, sides - 1, []
    while len(cuts) < sides - 3:
        cuts.append((low, high))
        if len(cuts) % 2:
            low += 1
        else:
            high -= 1
    return (sides, tuple(sorted(cuts)))


def halved(sides):
    """The cutting in which each base has its third corner in the middle."""
    cuts = []

    def halve(low, high):
        if high - low < 2:
            return
        if high - low < sides - 1:
            cuts.append((low, high))
        halve(low, (low + high) // 2)
        halve((low + high) // 2, high)

    halve(0, sides - 1)
    return (sides, tuple(sorted(cuts)))


def all_cuts(sides):
    """All cuts of a polygon, ascending."""
    return [(low, high) for low, high in combinations(range(sides), 2) if 2 <= high - low <= sides - 2]


def meet_inside(one, other):
    """Whether two cuts cross, by the words of the document."""
    (a, b), (c, d) = one, other
    return a < c < b < d or c < a < d < b


def every_cutting(sides):
    """All cuttings of a polygon, ascending, found by looking at all sets of cuts."""
    return [
        (sides, cuts) for cuts in combinations(all_cuts(sides), sides - 3)
        if not any(meet_inside(one, other) for one, other in combinations(cuts, 2))
    ]


SMALL = [cutting for sides in range(3, 8) for cutting in every_cutting(sides)]
LITTLE = [cutting for cutting in SMALL if cutting[0] < 7]
GREAT = [make(sides) for sides in (8, 9, 13, 24, 39, 40) for make in (fan, zigzag, halved)]
GREAT += [fan(40, 17), fan(12, 11), fan(9, 4)]


def slow_ties(cutting):
    """All ties, by the words of the document."""
    sides, cuts = cutting
    beside = [tuple(sorted((corner, (corner + 1) % sides))) for corner in range(sides)]
    return sorted(set(beside) | set(cuts))


def slow_pieces(cutting):
    """All pieces, by the words of the document."""
    known = set(slow_ties(cutting))
    return [
        some for some in combinations(range(cutting[0]), 3)
        if all(pair in known for pair in combinations(some, 2))
    ]


def slow_counts(cutting):
    """How many pieces each corner has."""
    known = slow_pieces(cutting)
    return tuple(sum(corner in piece for piece in known) for corner in range(cutting[0]))


def slow_exchange(cutting, cut):
    """The cut that comes if a cut is exchanged, and the cutting then."""
    others = {corner for piece in slow_pieces(cutting) if set(cut) <= set(piece) for corner in piece} - set(cut)
    new = tuple(sorted(others))
    return new, (cutting[0], tuple(sorted(set(cutting[1]) - {cut} | {new})))


def nested(depth, leaf, kind):
    """A value nested so deep."""
    for _ in range(depth):
        leaf = kind([leaf])
    return leaf


GREAT_INT = 10 ** 120 - 1

# Values of all kinds but integers, none of which is anything that a function asks for.
OTHERS = [
    True, False, None, "", "right", "5: 0-2 0-3", "a" * 1000, "one\ntwo", "~", [], [1], [1, 2], [[0, 2]], [(0, 2)],
    [5, [[0, 2], [0, 3]]], [3, 1, 2, 2, 1], (None,), (None, None), (True, True), ((), ()), ((),), ("right", 1),
    ("a", "b", "c"), (True,) * 3, (None,) * 400, ("x",) * 400, [0] * 400, (GREAT_INT,) * 400, (-GREAT_INT, GREAT_INT),
    nested(29, 1, tuple), nested(29, (), tuple), nested(29, 1, list), nested(29, [], list), (5, nested(28, 0, tuple)),
    (nested(28, 0, tuple),) * 3, ([1, 2],) * 3, WorldError("x"), InvalidCutting("y"), TooMany(3),
]
INTS = [-GREAT_INT, -10 ** 30 - 1, -1001, -100, -41, -3, -2, -1, 0, 1, 2, 3, 4, 5, 7, 40, 41, 100, 201, 1001,
        10 ** 30 + 1, GREAT_INT]


def wrong_ints(low, high, *wrong):
    """What is no integer from low to high, and some more that is wrong."""
    return OTHERS + [number for number in INTS if not low <= number <= high] + [low - 1, high + 1, (low,), *wrong]


def spoiled_int(number):
    """Values that are almost an integer, or much too great."""
    yield from (bool(number), None, str(number), [number], (number,), GREAT_INT, -GREAT_INT, nested(20, number, tuple))


def spoiled(value, lengths=True):
    """Values of wrong kinds that are almost a tuple of integers, or nested so; with other lengths, if asked for."""
    if not isinstance(value, tuple):
        yield from (spoiled_int(value) if isinstance(value, int) else (None, [value], (value,), value + "s", True, 1))
        return
    yield list(value)
    yield from (None, True, str(value), (value,), [value])
    if lengths:
        yield value + (value[-1:] or (0,))
        yield (value[:1] or (0,)) + value
        if value:
            yield value[:-1]
            yield value[1:]
    for at, item in enumerate(value):
        for other in spoiled(item, lengths):
            yield value[:at] + (other,) + value[at + 1:]


WRONG_CUTTINGS = OTHERS + INTS + list(spoiled(P)) + list(spoiled(Q)) + list(spoiled(TRIANGLE)) + [
    (2, ()), (41, ()), fan(41), (5, ((0, 3), (0, 2))), (5, ((0, 2), (0, 2))), (5, ((0, 2), (1, 3))),
    (5, ((0, 2), (2, 0))), (5, ((0, 1), (0, 2))), (5, ((0, 2), (0, 4))), (5, ((0, 2), (0, 5))), (5, ((-1, 1), (0, 2))),
    (5, ((0, 2), (2, 2))), (6, ((0, 2), (2, 4))), (4, ((0, 2), (1, 3))), (4, ((0, 2), (0, 2))), (6, ((0, 2), (0, 4), (2, 4), (2, 4))),
    (6, ((0, 3), (1, 4), (2, 5))), (0, ()), (-3, ()), (4, [(0, 2)]), (4, ([0, 2],)), (4, ((False, 2),)), (True, ()),
]
WRONG_SIDES = wrong_ints(3, 40)


class Meanwhile:
    """Tells how long the rows of a with statement took."""

    def __enter__(self):
        self.start = perf_counter()
        return self

    def __exit__(self, *told):
        self.seconds = perf_counter() - self.start
