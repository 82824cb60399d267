"""Stands: an integer for each register of each axis."""

from takenup.checks import is_integer
from takenup.cursor import Cursor
from takenup.errors import BadStand, NoAxis, NoRegister
from takenup.machines import Machine, take_machine


class Stand:
    """How a machine stands."""

    def __init__(self, machine, **axes):
        if not isinstance(machine, Machine):
            raise BadStand("machine")
        need_named_axes(machine, axes)
        for axis in machine.axes:
            if not is_row(machine, axes.get(axis, {})):
                raise BadStand(axis)
        self.machine = machine
        self.triples = triples_of(machine, axes)
        self.positions = tuple([number for _, name, number in self.triples if name == "p"])
        self.zeros = tuple([zeros_of(self.triples, axis) for axis in machine.axes])

    def __getitem__(self, at):
        axis, name = at
        need_register(self.machine, axis, name)
        return self.numbers(axis)[name]

    def __iter__(self):
        return iter(self.triples)

    def numbers(self, axis):
        """The dict of each register of an axis to its integer."""
        if axis not in self.machine:
            raise NoAxis(axis)
        return {name: number for letter, name, number in self.triples if letter == axis}

    def with_number(self, axis, name, number):
        """The stand with another integer in one register."""
        need_register(self.machine, axis, name)
        if not is_integer(number):
            raise BadStand("number")
        table = rows_of(self)
        table[axis][name] = number
        return Stand(self.machine, **table)

    def with_positions(self, **numbers):
        """The stand with other positions of the named axes."""
        need_named_axes(self.machine, numbers)
        for axis in self.machine.axes:
            if axis in numbers and not is_integer(numbers[axis]):
                raise BadStand(axis)
        table = rows_of(self)
        for axis in numbers:
            table[axis]["p"] = numbers[axis]
        return Stand(self.machine, **table)

    def __eq__(self, other):
        return isinstance(other, Stand) and self.machine == other.machine and self.triples == other.triples

    def __str__(self):
        return " ".join([str(self.machine), *[axis_text(self, axis) for axis in self.machine.axes]])

    @staticmethod
    def read(text):
        """The stand with this text."""
        cursor = Cursor(text)
        machine = take_machine(cursor)
        table = {}
        for axis in machine.axes:
            cursor.need_word(axis)
            table[axis] = {name: cursor.take_integer() for name in machine.registers}
        cursor.need_end()
        return Stand(machine, **table)


def need_named_axes(machine, table):
    """Refuses the first keyword, as passed, that is no axis of the machine."""
    for axis in table:
        if axis not in machine:
            raise NoAxis(axis)


def need_register(machine, axis, name):
    """Refuses what is no axis, then what is no name of a register, of the machine."""
    if axis not in machine:
        raise NoAxis(axis)
    if not isinstance(name, str) or name not in machine.registers:
        raise NoRegister(name)


def is_row(machine, numbers):
    """Whether any value is a dict from names of registers of the machine to integers."""
    if not isinstance(numbers, dict):
        return False
    return all([name in machine.registers and is_integer(numbers[name]) for name in numbers])


def rows_of(stand):
    """A new dict of each axis to the dict of its registers."""
    return {axis: stand.numbers(axis) for axis in stand.machine.axes}


def triples_of(machine, table):
    """The triples of axis, register and integer, 0 for what the table does not name."""
    triples = []
    for axis in machine.axes:
        numbers = table.get(axis, {})
        triples.extend([(axis, name, numbers.get(name, 0)) for name in machine.registers])
    return tuple(triples)


def zeros_of(triples, axis):
    """The tuple of the integers of the zeros of an axis."""
    return tuple([number for letter, name, number in triples if letter == axis and name.startswith("z")])


def axis_text(stand, axis):
    """The text of an axis and its integers."""
    return " ".join([axis, *[str(number) for letter, _, number in stand.triples if letter == axis]])
