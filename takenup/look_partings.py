"""Looking whether a Parting shows a spot at which machines part."""

from takenup.effects import StepEffects, block_effect, joined_effect
from takenup.inside import block_inside, effect_inside, row_inside
from takenup.pairs import Parting
from takenup.places import is_run
from takenup.standing import Standing
from takenup.word_rows import WAY, laid, said_by


def parting_holds(program, machine, axis, other_row, held, value, second):
    """Whether any value is a Parting at a spot of an axis, or at a plain one for None as axis.

    The other machine begins with the words of a row, and with a position held as the pair of an index and a number.
    """
    if not isinstance(value, Parting) or not is_run(program, value.run):
        return False
    run, run_on, inside, what = value.parts
    if not is_run(program, run_on, run[-1]) or len(run_on) < 2:
        return False
    block = block_inside(program[run_on[-2]], inside)
    if block is None or not isinstance(what, str):
        return False
    other_block = block_inside(second[run_on[-2]], inside)
    begun = row_along(program, run, Standing.first().row)
    row = row_at_block(program, run_on, inside, begun)
    if not is_compared(machine, axis, block, other_block, row[WAY], what):
        return False
    if axis is not None:
        return parts_on_axis(program, machine, axis, begun, other_row, held, value, second)
    if what == "mark":
        return block.is_marking != other_block.is_marking
    at = Standing.NAMES.index(what)
    return row[at] != row_at_block(second, run_on, inside, other_row)[at]


def is_compared(machine, axis, block, other_block, way, what):
    """Whether two blocks are compared at a spot of an axis, or at a plain one, if the first machine's way is this."""
    is_marking = block.is_marking and other_block.is_marking
    if axis is None:
        return what == "mark" or is_marking and (what == "way" or way == "cut" and what in Standing.PLAIN_NAMES)
    if what in ("begins", "ends"):
        return is_marking and (what == "ends" or way == "cut")
    return what in machine.registers[1:1 + machine.zeros]


def row_along(program, run, row):
    """The row of words behind the steps of a run on but its last place."""
    for place in run[:-1]:
        row = laid(row, said_by(program[place]))
    return row


def row_at_block(program, run_on, inside, row):
    """The row of words that hold at a block inside the last step of a run on, which begins with these words."""
    step = program[run_on[-2]]
    ahead = row_inside(step, row_along(program, run_on[:-1], row), inside)
    return laid(ahead, block_inside(step, inside).words.row)


def parts_on_axis(program, machine, axis, row, other_row, held, value, second):
    """Whether what is compared has unlike sources or unlike numbers, of the registers ahead of the run.

    The rows are those of both machines' words behind the run.
    """
    begun, told, other_told = sums_parted(program, machine, axis, row, other_row, value, second)
    other_source, other_number = other_told
    if other_source == 0 and held is None:
        return True
    if other_source == 0:
        other_told = (held[0], held[1] + other_number)
    return sum_ahead(begun, told) != sum_ahead(begun, other_told)


def position_wanted(program, machine, axis, other_row, value):
    """The sum that a Parting wants of the position, of the registers ahead of its run, with the effect of the run.

    The sum is None if what the other machine has at the spot does not come from its position.
    """
    row = row_along(program, value.run, Standing.first().row)
    begun, told, other_told = sums_parted(program, machine, axis, row, other_row, value, program)
    other_source, other_number = other_told
    if other_source != 0:
        return begun, None
    source, number = sum_ahead(begun, told)
    return begun, (source, number - other_number)


def sums_parted(program, machine, axis, row, other_row, value, second):
    """The effect of a Parting's run, and the sums of both machines at its spot, of registers ahead of the run on."""
    run, run_on, inside, what = value.parts
    said = [said_by(step) for step in program.steps]
    begun, _ = StepEffects(program, machine, axis).of_run(run, Standing.first().row, said)
    told = sum_at_spot(program, machine, axis, row, run_on, inside, what)
    return begun, told, sum_at_spot(second, machine, axis, other_row, run_on, inside, what)


def sum_ahead(effect, told):
    """The sum ahead of an effect that a sum behind it comes from."""
    source, number = told
    first, added = effect[source]
    return (first, added + number)


def sum_at_spot(program, machine, axis, row, run_on, inside, what):
    """The index of the source ahead of a run on, and the number, of what is compared at a spot of its last step."""
    many = len(machine.registers)
    said = [said_by(step) for step in program.steps]
    effect, row = StepEffects(program, machine, axis).of_run(run_on[:-1], row, said)
    step = program[run_on[-2]]
    effect = joined_effect(effect, effect_inside(many, axis, step, row, inside))
    if what == "begins":
        return effect[0]
    block = block_inside(step, inside)
    effect = joined_effect(effect, block_effect(many, row_inside(step, row, inside), block, axis))
    return effect[0] if what == "ends" else effect[machine.registers.index(what)]
