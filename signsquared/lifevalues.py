"""Squares with notes as values."""

from signsquared.below import join, meet
from signsquared.errors import Unlike
from signsquared.heights import heights, is_leaning
from signsquared.helpers import check_any_point
from signsquared.lifetexts import notes_text, square_text
from signsquared.notes import check_notes, check_share, notes_by_colour, notes_times, notes_toggled
from signsquared.notes import notes_turned_over, plain_notes, product_of, turned_over
from signsquared.squares import check_square, minuses, order_square
from signsquared.toggles import toggled, toggled_colour


class Toned:
    """A square with notes."""

    def __init__(self, square, notes):
        check_square(square)
        check_notes(len(square), notes)
        self._square = square
        self._notes = notes

    @classmethod
    def plain(cls, square):
        """A square with its plain notes."""
        return cls(square, plain_notes(square))

    @property
    def square(self):
        """The square."""
        return self._square

    @property
    def notes(self):
        """The notes."""
        return self._notes

    def __xor__(self, other):
        return Toned(toggled(self._square, other), notes_toggled(len(self._square), self._notes, other))

    def __ixor__(self, other):
        changed = toggled(self._square, other)
        self._notes = notes_toggled(len(self._square), self._notes, other)
        self._square = changed
        return self

    def __lshift__(self, other):
        return Toned(toggled_colour(self._square, other), notes_by_colour(len(self._square), self._notes, other))

    def __invert__(self):
        return Toned(self._square, notes_turned_over(self._notes))

    def __mul__(self, other):
        check_share(other)
        return Toned(self._square, notes_times(self._notes, other))

    def __and__(self, other):
        return Toned(meet(self._square, order_square(other)), self._notes)

    def __or__(self, other):
        return Toned(join(self._square, order_square(other)), self._notes)

    def __call__(self, row, column):
        check_any_point(len(self._square), (row, column))
        return self._notes[row][column]

    def __getitem__(self, at):
        check_any_point(len(self._square), at)
        return heights(self._square)[at[0]][at[1]]

    def __contains__(self, x):
        return is_leaning(self._square, x)

    def __iter__(self):
        raise TypeError("a square with notes is not iterated over")

    def __len__(self):
        return len(self._square)

    def __bool__(self):
        return not minuses(self._square)

    def __str__(self):
        return f"{square_text(self._square)}; {notes_text(len(self._square), self._notes)}"

    def __eq__(self, other):
        return isinstance(other, Toned) and self._square == other._square and self._notes == other._notes

    def like(self, other):
        """Whether the notes of another one are those of this one times a share."""
        if not isinstance(other, Toned) or len(other._square) != len(self._square):
            raise Unlike("this is no square with notes of as many sides")
        share = product_of(other._notes[0][0], turned_over(self._notes[0][0]))
        return notes_times(self._notes, share) == other._notes
