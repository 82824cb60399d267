"""What blocks and tolds do to the registers of an axis, as rows.

An effect is a tuple with a pair for each register, in order: the index of the register that is its source, and the
number. Words are told as rows that begin with reading, unit and zero.
"""

from takenup.blocks import Block
from takenup.standing import LENGTHS
from takenup.word_rows import NUMBERS, laid, said_by


def same_effect(many):
    """The effect by which each of so many registers keeps what it holds."""
    return tuple([(at, 0) for at in range(many)])


def joined_effect(one, other):
    """Both effects, one first."""
    return tuple([(one[source][0], one[source][1] + number) for source, number in other])


def raised_effect(effect, times):
    """So many times an effect, joined, for an integer from 0 on."""
    return tuple([raised_pair(effect, at, times) for at in range(len(effect))])


def raised_pair(effect, at, times):
    """The source of a register behind so many times an effect, and the number.

    Sources come again in a ring of a few. When one comes again, whole times round the ring are left out.
    """
    source, number = at, 0
    seen = {}
    while times > 0:
        if source in seen:
            times_then, number_then = seen[source]
            length = times_then - times
            number = number + (number - number_then) * (times // length)
            times = times % length
            seen = {}
        else:
            seen[source] = (times, number)
            source, added = effect[source]
            number = number + added
            times = times - 1
    return (source, number)


def change_of_block(many, row, block, axis):
    """The register that a block changes, its source and the number; None if it changes none of this axis.

    The row is that of the words that hold at the deed. There are so many registers.
    """
    deed = block.deed
    if axis not in block.axes:
        return None
    if deed.KIND == "home":
        return (0, many - 2, 0)
    if deed.KIND == "touch":
        return (0, many - 1, 0)
    reading, unit, zero = row[:NUMBERS]
    length = LENGTHS[unit] * deed[axis]
    if deed.KIND == "here":
        return (1 + zero, 0, -length)
    if deed.KIND == "lay":
        return (1 + zero, 1 + zero, length)
    return (0, 1 + zero if reading == "far" else 0, length)


def block_effect(many, row, block, axis):
    """The effect of a block, ahead of which the words of the row hold."""
    same = same_effect(many)
    change = change_of_block(many, laid(row, block.words.row), block, axis)
    if change is None:
        return same
    at, source, number = change
    return same[:at] + ((source, number),) + same[at + 1:]


def turn_effect(many, row, told, axis):
    """The effect of one turn of a told, ahead of which the words of the row hold."""
    effect = same_effect(many)
    for item in told.members:
        effect = joined_effect(effect, step_effect(many, row, item, axis))
        row = laid(row, said_by(item))
    return effect


def step_effect(many, row, step, axis):
    """The effect of a block or a told, ahead of which the words of the row hold."""
    if isinstance(step, Block):
        return block_effect(many, row, step, axis)
    later = turn_effect(many, laid(row, said_by(step)), step, axis)
    return joined_effect(turn_effect(many, row, step, axis), raised_effect(later, step.count - 1))


class StepEffects:
    """The effects of the steps of a program on an axis, each made once for the words that come.

    They are known by the places of the steps; or by names of the steps, so that what is known serves other programs.
    """

    def __init__(self, program, machine, axis, names=None, known=None):
        self.plan = program
        self.axis = axis
        self.many = len(machine.registers)
        self.names = names
        self.known = {} if known is None else known

    def effect_at(self, place, row):
        """The effect of the step of a place, ahead of which the words of the row hold."""
        key = (place if self.names is None else self.names[place], row[:NUMBERS])
        if key not in self.known:
            self.known[key] = step_effect(self.many, row, self.plan[place], self.axis)
        return self.known[key]

    def of_run(self, run, row, said):
        """The effect of the steps of a run on but the last place's, and the row behind them."""
        effect = same_effect(self.many)
        for place in run[:-1]:
            effect = joined_effect(effect, self.effect_at(place, row))
            row = laid(row, said[place])
        return effect, row
