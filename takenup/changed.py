"""Programs that are mirrored, or have two axes or two zeros exchanged."""

from takenup.blocks import Block, Numbered
from takenup.checks import is_within
from takenup.errors import BadProgram, BadWords, NoAxis
from takenup.items import Round, Skip, Told
from takenup.machines import is_axis
from takenup.programs import Program


def mirrored(program, axis):
    """The program, group or block with the numbers of one axis negated."""
    need_changeable(program)
    need_axes([axis])
    return rebuilt(program, lambda block: mirrored_block(block, axis))


def exchanged(program, one, other):
    """The program, group or block with two axes exchanged."""
    need_changeable(program)
    need_axes([one, other])
    return rebuilt(program, lambda block: exchanged_block(block, one, other))


def rezeroed(program, one, other):
    """The program, group or block with two zeros exchanged."""
    need_changeable(program)
    if not is_within(one, 0, 3) or not is_within(other, 0, 3):
        raise BadWords("zero")
    return rebuilt(program, lambda block: rezeroed_block(block, one, other))


def need_changeable(program):
    """Refuses what is neither a program nor a group nor a block."""
    if not isinstance(program, (Program, Skip, Round, Told, Block)):
        raise BadProgram("program")


def need_axes(axes):
    """Refuses the first value that is no letter of an axis."""
    for axis in axes:
        if not is_axis(axis):
            raise NoAxis(axis)


def rebuilt(item, change):
    """The program, group or block with each block as change gives it."""
    if isinstance(item, Block):
        return change(item)
    items = [rebuilt(member, change) for member in item.members]
    return Program(*items) if isinstance(item, Program) else item.with_items(*items)


def mirrored_block(block, axis):
    """The block with the number of one axis negated."""
    if not isinstance(block.deed, Numbered):
        return block
    numbers = {name: -number if name == axis else number for name, number in block.deed}
    return Block(block.words, block.deed.renumbered(**numbers))


def exchanged_block(block, one, other):
    """The block with two axes exchanged."""
    if block.deed is None:
        return block
    if isinstance(block.deed, Numbered):
        numbers = {swapped(axis, one, other): number for axis, number in block.deed}
        return Block(block.words, block.deed.renumbered(**numbers))
    axes = [swapped(axis, one, other) for axis in block.axes]
    return Block(block.words, block.deed.renamed(*axes))


def rezeroed_block(block, one, other):
    """The block with two zeros exchanged."""
    zero = swapped(block.words.zero, one, other)
    return Block(block.words.with_word("zero", zero), block.deed)


def swapped(value, one, other):
    """The other one for the one, the one for the other, any further value as it is."""
    if value == one:
        return other
    return one if value == other else value
