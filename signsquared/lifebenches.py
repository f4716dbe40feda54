"""Benches, on which steps and scripts lead a state, and can be taken back."""

from signsquared.errors import NothingToRedo, NothingToUndo, TooMany
from signsquared.heights import heights, is_leaning, leaning_points, rise
from signsquared.helpers import check_any_point
from signsquared.lifesteps import all_stepped, check_state, stepped
from signsquared.squares import minuses


class Bench:
    """A state that is led by steps."""

    MOST = 60

    def __init__(self, state):
        check_state(state)
        self._state = state
        # Calls are triples of the state ahead, the steps, and the state behind; tuples, so that they can be kept as is.
        self._done = ()
        self._undone = ()

    def _lead(self, behind, steps):
        """Take a call's state, unless there are too many calls."""
        if len(self._done) >= Bench.MOST:
            raise TooMany(Bench.MOST)
        self._done = self._done + ((self._state, steps, behind),)
        self._undone = ()
        self._state = behind

    def do(self, step):
        """Do a step, and tell whether the state is another one then."""
        ahead = self._state
        self._lead(stepped(ahead, step), (step,))
        return self._state != ahead

    def __iadd__(self, other):
        self._lead(all_stepped(self._state, other)[-1], other)
        return self

    def undo(self):
        """Take back the last call that can be taken back."""
        if len(self._done) == 0:
            raise NothingToUndo("there is no call to take back")
        call = self._done[-1]
        self._done = self._done[:-1]
        self._undone = self._undone + (call,)
        self._state = call[0]

    def redo(self):
        """Do the last call again that was taken back."""
        if len(self._undone) == 0:
            raise NothingToRedo("there is no call to do again")
        call = self._undone[-1]
        self._undone = self._undone[:-1]
        self._done = self._done + (call,)
        self._state = call[2]

    def attempt(self, action):
        """What a function returns for this bench; if it ends with an error, all is as it was before."""
        state, done, undone = self._state, self._done, self._undone
        ended = None
        try:
            told = action(self)
            ended = True
        finally:
            if ended is None:
                self._state, self._done, self._undone = state, done, undone
        return told

    @property
    def state(self):
        """The state."""
        return self._state

    @property
    def square(self):
        """The square of the state."""
        return self._state[0]

    @property
    def notes(self):
        """The notes of the state."""
        return self._state[1]

    @property
    def spot(self):
        """The spot of the state."""
        return self._state[2]

    @property
    def heights(self):
        """The heights of the square."""
        return heights(self._state[0])

    @property
    def rise(self):
        """The rise of the square."""
        return rise(self._state[0])

    @property
    def free(self):
        """The ascending tuple of all hollows and hills."""
        return tuple(leaning_points(self._state[0]))

    @property
    def here(self):
        """The note at the spot."""
        row, column = self._state[2]
        return self._state[1][row][column]

    @property
    def log(self):
        """The tuple of all steps of the calls that can be taken back, in order."""
        return tuple([step for ahead, steps, behind in self._done for step in steps])

    def __getitem__(self, at):
        check_any_point(len(self._state[0]), at)
        row, column = at
        return heights(self._state[0])[row][column], self._state[1][row][column]

    def __contains__(self, x):
        return is_leaning(self._state[0], x)

    def __iter__(self):
        raise TypeError("a bench is not iterated over")

    def __len__(self):
        return len(self._done)

    def __bool__(self):
        return not minuses(self._state[0])

    def __eq__(self, other):
        return isinstance(other, Bench) and self._state == other._state

    def lines(self):
        """Yield the heights of each row of points, with a star behind that at the spot."""
        square, _, spot = self._state
        for row, numbers in enumerate(heights(square)):
            yield " ".join([
                str(height) + ("*" if (row, column) == spot else "") for column, height in enumerate(numbers)
            ])
