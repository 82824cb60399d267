"""Shifts: what each register of an axis holds behind, told by what registers held ahead."""

from takenup.checks import is_integer
from takenup.cursor import Cursor
from takenup.errors import BadMap, NoRegister
from takenup.machines import Machine, need_machine
from takenup.sums import Sum, sum_of


class Shift:
    """Gives each register of an axis a sum."""

    def __init__(self, machine, table=None):
        need_machine(machine)
        need_table(machine, table)
        sums = {name: Sum(name) for name in machine.registers}
        told = sums if table is None else {**sums, **table}
        if told["o"] != sums["o"] or told["s"] != sums["s"]:
            raise BadMap("kept")
        self.machine = machine
        self.registers = machine.registers
        self.pairs = tuple([(name, told[name]) for name in machine.registers])
        self.is_one_to_one = is_apart([one.source for _, one in self.pairs])

    def __getitem__(self, at):
        for name, told in self.pairs:
            if name == at:
                return told
        raise NoRegister(at)

    def __iter__(self):
        return iter(self.pairs)

    def __call__(self, numbers):
        need_numbers(self.registers, numbers)
        return {name: told.value_in(numbers) for name, told in self.pairs}

    def __mul__(self, other):
        if not isinstance(other, Shift) or self.registers != other.registers:
            raise BadMap("other")
        ahead = dict(self.pairs)
        return Shift(self.machine, {name: ahead[told.source] + told.number for name, told in other.pairs})

    def __invert__(self):
        if not self.is_one_to_one:
            raise BadMap("two")
        return Shift(self.machine, {told.source: Sum(name, -told.number) for name, told in self.pairs})

    def power(self, n):
        """So many times this shift, joined; below 0 the one that leads back."""
        if not is_integer(n):
            raise BadMap("power")
        return raised(self, n) if n >= 0 else raised(~self, -n)

    def __pow__(self, other):
        return self.power(other)

    def meeting(self):
        """The first two registers that get sums of one source, None if there are none."""
        for at, (one, told) in enumerate(self.pairs):
            for other, later in self.pairs[at + 1:]:
                if told.source == later.source:
                    return (one, other)
        return None

    def pulled(self, one, other):
        """The sources of two registers, and what is added to their difference."""
        first = self[one]
        second = self[other]
        return (first.source, second.source, first.number - second.number)

    def __eq__(self, other):
        return isinstance(other, Shift) and self.pairs == other.pairs

    @staticmethod
    def same(machine):
        """The shift that keeps all registers of the machine."""
        return Shift(machine)

    def __str__(self):
        return " ".join([f"{name}={told}" for name, told in self.pairs if name not in ("o", "s")])

    @staticmethod
    def read(text):
        """The shift with this text."""
        cursor = Cursor(text)
        table = {"p": take_sum(cursor, "p"), "z0": take_sum(cursor, "z0")}
        for name in ("z1", "z2", "z3"):
            if cursor.ahead() is not None:
                table[name] = take_sum(cursor, name)
        cursor.need_end()
        machine = Machine(1, len(table) - 1)
        if not all([told.source in machine.registers for told in table.values()]):
            cursor.refuse()
        return Shift(machine, table)


def need_table(machine, table):
    """Refuses what is neither None nor a dict of sums of the machine's registers under its registers."""
    if table is None:
        return
    if not isinstance(table, dict) or not all([is_entry(machine, name, table[name]) for name in table]):
        raise BadMap("table")


def is_entry(machine, name, told):
    """Whether any name is a register of the machine, and any value a sum of one."""
    if not isinstance(name, str) or name not in machine.registers:
        return False
    return isinstance(told, Sum) and told.source in machine.registers


def is_apart(names):
    """Whether no name stands there twice."""
    return len({name: True for name in names}) == len(names)


def need_numbers(registers, numbers):
    """Refuses what is no dict of an integer under each register, and nothing else."""
    if not isinstance(numbers, dict) or len(numbers) != len(registers):
        raise BadMap("numbers")
    if not all([is_integer(numbers.get(name)) for name in registers]):
        raise BadMap("numbers")


def raised(shift, times):
    """So many times a shift, joined, for an integer from 0 on."""
    whole = Shift(shift.machine)
    part = shift
    while times > 0:
        if times % 2 == 1:
            whole = whole * part
        part = part * part
        times = times // 2
    return whole


def take_sum(cursor, name):
    """The sum of this name, whose word lies ahead."""
    head, sign, text = (cursor.ahead() or "").partition("=")
    told = sum_of(text)
    if head != name or sign == "" or told is None:
        cursor.refuse()
    cursor.go_on()
    return told
