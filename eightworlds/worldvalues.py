"""Cuttings with lengths, as values."""

from eightworlds.basics import are_ints, need_number, ratio_product
from eightworlds.errors import InvalidTie, Unlike
from eightworlds.exchanges import exchanged
from eightworlds.lengths import lengths_behind, need_lengths, spans_by
from eightworlds.polygons import need_cutting, ties
from eightworlds.reaches import (
    all_reaches_by, cutting_by_ties, lengths_by, need_share, need_unlike_corners, numbers_turned, reach_between,
    reaches_of, spans_numbered
)
from eightworlds.worldtexts import cutting_text, lengths_text


def is_tie(cutting, value):
    """Return whether any value is a tie of a cutting."""
    return are_ints(value, 2) and value in ties(cutting)


def length_of_tie(cutting, lengths, value):
    """Return the length of a tie, and raise InvalidTie for what is none."""
    if not is_tie(cutting, value):
        raise InvalidTie("a tie of the cutting is needed")
    return lengths[ties(cutting).index(value)]


class Gauged:
    """A cutting with lengths."""

    def __init__(self, cutting, lengths):
        need_cutting(cutting)
        need_lengths(cutting, lengths)
        self._cutting = cutting
        self._lengths = lengths

    @classmethod
    def ones(cls, cutting):
        """Return a cutting with all lengths 1."""
        need_cutting(cutting)
        return cls(cutting, ((1, 1),) * (2 * cutting[0] - 3))

    @property
    def cutting(self):
        """Return the cutting."""
        return self._cutting

    @property
    def lengths(self):
        """Return the lengths."""
        return self._lengths

    def numbered(self, numbers):
        """Return it with other numbers for the corners."""
        spans = spans_numbered(spans_by(self._cutting, self._lengths), numbers)
        return Gauged(cutting_by_ties(self._cutting[0], spans), lengths_by(spans))

    def __xor__(self, other):
        """Return it with a cut exchanged."""
        return Gauged(exchanged(self._cutting, other), lengths_behind(self._cutting, self._lengths, other))

    def __ixor__(self, other):
        """Exchange a cut of the object itself."""
        behind = self ^ other
        self._cutting = behind.cutting
        self._lengths = behind.lengths
        return self

    def __lshift__(self, other):
        """Return it turned by so many steps."""
        need_number(other, -1000, 1000)
        return self.numbered(numbers_turned(self._cutting[0], 1, other))

    def __invert__(self):
        """Return its mirror image."""
        return self.numbered(numbers_turned(self._cutting[0], -1, 0))

    def __mul__(self, other):
        """Return it with all lengths times a share."""
        need_share(other)
        return Gauged(self._cutting, tuple([ratio_product(own, other) for own in self._lengths]))

    def __call__(self, first, last):
        """Return the reach of two unlike corners."""
        need_unlike_corners(self._cutting[0], first, last)
        return reach_between(self._cutting, self._lengths, first, last)

    def __getitem__(self, at):
        """Return the length of a tie."""
        return length_of_tie(self._cutting, self._lengths, at)

    def __contains__(self, value):
        """Return whether any value is a tie."""
        return is_tie(self._cutting, value)

    def __iter__(self):
        """Raise TypeError, as there is nothing to iterate over."""
        raise TypeError("it is not iterated over")

    def __len__(self):
        """Return the number of sides."""
        return len(range(self._cutting[0]))

    def __bool__(self):
        """Return whether all reaches are integers."""
        # The lengths are reaches, too, and sooner known.
        return all([below == 1 for _, below in self._lengths]) and all(
            [below == 1 for _, below in all_reaches_by(self._cutting, self._lengths)]
        )

    def __eq__(self, other):
        """Return whether anything is the same cutting with the same lengths."""
        return isinstance(other, Gauged) and self._cutting == other._cutting and self._lengths == other._lengths

    def __str__(self):
        """Return the texts of the cutting and of the lengths."""
        return f"{cutting_text(self._cutting)}; {lengths_text(self._cutting, self._lengths)}"

    def same(self, other):
        """Return whether all reaches are the same as those of another one with as many sides."""
        if not isinstance(other, Gauged) or other.cutting[0] != self._cutting[0]:
            raise Unlike("a Gauged with as many sides is needed")
        # All reaches come of the lengths of the ties.
        return reaches_of(other.cutting, other.lengths, ties(self._cutting)) == self._lengths
