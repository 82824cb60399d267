"""Tapes: what a control has told, step by step."""

from takenup.checks import is_integer
from takenup.errors import BadPaper
from takenup.marks import Mark
from takenup.papers import Paper


class Row(Paper):
    """The place of a step, its marks, or None if it was leapt over, and the zeros behind it."""

    def __init__(self, place, marks, zeros):
        Paper.__init__(self, "row", place, marks, zeros)
        self.place, self.marks, self.zeros = self.parts


class Tape(Paper):
    """Rows, one for each step."""

    def __init__(self, *rows):
        if not all([is_row_of_tape(row) for row in rows]):
            raise BadPaper("rows")
        Paper.__init__(self, "tape", *rows)
        self.rows = self.parts
        self.places = tuple([row.place for row in rows])
        self.marks = tuple([mark for row in rows for mark in row.marks or ()])
        self.cuts = tuple([mark for mark in self.marks if mark.way == "cut"])
        self.zeros = rows[-1].zeros if len(rows) > 0 else None

    def __len__(self):
        return len(self.rows)

    def __iter__(self):
        return iter(self.rows)

    def __getitem__(self, at):
        if is_integer(at):
            if not 0 <= at < len(self.rows):
                raise BadPaper("row")
            return self.rows[at]
        rows = self.rows[at]
        return Tape(*rows)

    def __contains__(self, x):
        return x in self.rows

    def __add__(self, other):
        need_tape(other)
        rows = self.rows + other.rows
        return Tape(*rows)

    def from_last(self, place):
        """The Tape of the rows from the last one of a place on."""
        visits = [at for at, told in enumerate(self.places) if is_integer(place) and told == place]
        rows = self.rows[visits[-1]:] if len(visits) > 0 else ()
        return Tape(*rows)

    def parting(self, other):
        """The least index at which both have rows and these are not equal, None if there is none."""
        need_tape(other)
        for at, (mine, its) in enumerate(zip(self.rows, other.rows)):
            if mine != its:
                return at
        return None

    def is_beginning_of(self, other):
        """Whether the rows are the first ones of another tape."""
        need_tape(other)
        return self.rows == other.rows[:len(self.rows)]


def is_row_of_tape(value):
    """Whether any value is a Row of an integer from 0 on, of None or marks, and of tuples of integers."""
    if not isinstance(value, Row) or not is_integer(value.place) or value.place < 0:
        return False
    if not isinstance(value.zeros, tuple) or not all([is_tuple_of_integers(zeros) for zeros in value.zeros]):
        return False
    if value.marks is None:
        return True
    return isinstance(value.marks, tuple) and all([isinstance(mark, Mark) for mark in value.marks])


def is_tuple_of_integers(value):
    """Whether any value is a tuple of integers."""
    return isinstance(value, tuple) and all([is_integer(number) for number in value])


def need_tape(other):
    """Refuses any value that is no Tape."""
    if not isinstance(other, Tape):
        raise BadPaper("other")
