"""Benches: states that scripts lead on, with all taken back and done anew."""

from eightworlds.basics import are_ints, need_few
from eightworlds.errors import NothingToRedo, NothingToUndo
from eightworlds.polygons import counts_by_cuts, pieces, ties
from eightworlds.reaches import reach_between
from eightworlds.snakes import cuts_along
from eightworlds.states import need_script, need_state, need_step, state_behind, states_along
from eightworlds.worldvalues import length_of_tie


def is_piece(cutting, value):
    """Return whether any value is a piece of a cutting."""
    return are_ints(value, 3) and value in pieces(cutting)


class Bench:
    """A bench with a state."""

    MOST = 60

    def __init__(self, state):
        need_state(state)
        self._state = state
        # Each call is kept as its steps, and the states ahead of it and behind it, the last one at the end.
        self._done = ()
        self._undone = ()

    @property
    def state(self):
        """Return the state."""
        return self._state

    @property
    def cutting(self):
        """Return the cutting."""
        return self._state[0]

    @property
    def lengths(self):
        """Return the lengths."""
        return self._state[1]

    @property
    def line(self):
        """Return the line."""
        return self._state[2]

    @property
    def seat(self):
        """Return the seat."""
        return self._state[3]

    @property
    def counts(self):
        """Return the numbers of pieces at the corners."""
        sides, cuts = self._state[0]
        return counts_by_cuts(sides, cuts)

    @property
    def crossed(self):
        """Return the tuple of the cuts that cross the line."""
        return tuple(cuts_along(self._state[0], self._state[2]))

    @property
    def reach(self):
        """Return the reach of the corners of the line."""
        cutting, lengths, line, _ = self._state
        return reach_between(cutting, lengths, line[0], line[1])

    @property
    def log(self):
        """Return the tuple of all steps of the calls that can be taken back."""
        return tuple([step for steps, _, _ in self._done for step in steps])

    def add_call(self, steps, behind):
        """Keep a call that leads to a state, if there is room for it, and go there."""
        need_few(len(self._done) + 1, Bench.MOST)
        self._done = self._done + ((steps, self._state, behind),)
        self._undone = ()
        self._state = behind

    def do(self, step):
        """Do a step, and return whether the state is another one then."""
        need_step(step)
        ahead = self._state
        self.add_call((step,), state_behind(ahead, step))
        return self._state != ahead

    def __iadd__(self, other):
        """Do all steps of a script as one call."""
        need_script(other)
        self.add_call(other, states_along(self._state, other)[-1])
        return self

    def undo(self):
        """Take back the last call that has not been taken back."""
        if len(self._done) == 0:
            raise NothingToUndo("no call can be taken back")
        call = self._done[-1]
        self._done = self._done[:-1]
        self._undone = self._undone + (call,)
        self._state = call[1]

    def redo(self):
        """Do the last call again that was taken back."""
        if len(self._undone) == 0:
            raise NothingToRedo("no call can be done again")
        call = self._undone[-1]
        self._undone = self._undone[:-1]
        self._done = self._done + (call,)
        self._state = call[2]

    def attempt(self, action):
        """Return what a function returns for the bench; if it ends with an error, all is as it was."""
        state, done, undone = self._state, self._done, self._undone
        ended = None
        try:
            told = action(self)
            ended = True
        finally:
            if ended is None:
                self._state, self._done, self._undone = state, done, undone
        return told

    def __getitem__(self, at):
        """Return the length of a tie, and whether the seat has it."""
        share = length_of_tie(self._state[0], self._state[1], at)
        return (share, at[0] in self._state[3] and at[1] in self._state[3])

    def __contains__(self, value):
        """Return whether any value is a piece."""
        return is_piece(self._state[0], value)

    def __iter__(self):
        """Raise TypeError, as there is nothing to iterate over."""
        raise TypeError("it is not iterated over")

    def __len__(self):
        """Return how many calls can be taken back."""
        return len(self._done)

    def __bool__(self):
        """Return whether the line is a tie."""
        return self._state[2] in ties(self._state[0])

    def __eq__(self, other):
        """Return whether anything is a bench with the same state."""
        return isinstance(other, Bench) and self._state == other._state

    def lines(self):
        """Yield each piece, with a star behind the seat."""
        _, _, _, seat = self._state
        for piece in pieces(self._state[0]):
            words = "-".join([str(corner) for corner in piece])
            yield words + "*" if piece == seat else words
