"""Refusing arguments that many functions take."""

from takenup.checks import is_within
from takenup.errors import BadMachine, BadProgram, NoPlace
from takenup.machines import need_machine
from takenup.programs import Program


def need_program(program):
    """Refuses any value that is no program."""
    if not isinstance(program, Program):
        raise BadProgram("program")


def need_both(program, machine):
    """Refuses what is no program, what is no machine, and a program that does not fit the machine."""
    need_program(program)
    need_machine(machine)
    need_fit(program.blocks, machine)


def need_fit(blocks, machine):
    """Refuses blocks that name an axis or a zero that the machine lacks."""
    if not all([block.fits(machine) for block in blocks]):
        raise BadMachine("fit")


def is_place(program, value):
    """Whether any value is a place of a program."""
    return is_within(value, 0, program.end)


def need_place(program, place):
    """Refuses any value that is no place of the program."""
    if not is_place(program, place):
        raise NoPlace(place)
