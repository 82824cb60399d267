"""Machines: how many axes there are, and how many zeros each axis has."""

from takenup.checks import is_within
from takenup.cursor import Cursor
from takenup.errors import BadMachine


class Machine:
    """A machine with the first one, two or three axes, and one to four zeros on each."""

    AXES = ("x", "y", "w")
    UNITS = (5, 127)

    def __init__(self, axes=1, zeros=2):
        if not is_within(axes, 1, 3):
            raise BadMachine("axes")
        if not is_within(zeros, 1, 4):
            raise BadMachine("zeros")
        self.axes = Machine.AXES[:axes]
        self.zeros = zeros
        self.kept = (*[f"z{at}" for at in range(zeros)], "o", "s")
        self.registers = ("p", *self.kept)

    def __eq__(self, other):
        return isinstance(other, Machine) and self.axes == other.axes and self.zeros == other.zeros

    def __contains__(self, x):
        return isinstance(x, str) and x in self.axes

    def __str__(self):
        return f"machine {len(self.axes)} {self.zeros}"

    @staticmethod
    def read(text):
        """The machine with this text."""
        cursor = Cursor(text)
        machine = take_machine(cursor)
        cursor.need_end()
        return machine


def is_axis(value):
    """Whether any value is the letter of an axis, whatever the machine."""
    return isinstance(value, str) and value in Machine.AXES


def take_machine(cursor):
    """The machine whose text lies ahead."""
    cursor.need_word("machine")
    axes = cursor.take_within(1, 3)
    zeros = cursor.take_within(1, 4)
    return Machine(axes, zeros)


def need_machine(value):
    """Refuses any value that is no machine."""
    if not isinstance(value, Machine):
        raise BadMachine("machine")
