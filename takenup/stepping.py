"""Steps, turns of tolds, and runs, as shifts of the registers of an axis."""

from takenup.blocks import Block
from takenup.effects import StepEffects, change_of_block, step_effect, turn_effect
from takenup.errors import BadBlock, BadProgram, BadWords, NoAxis, TooMany
from takenup.items import Told
from takenup.machines import need_machine
from takenup.maps import Shift
from takenup.needs import need_both, need_fit, need_program
from takenup.places import need_run_on
from takenup.standing import Standing
from takenup.sums import Sum
from takenup.word_rows import said_by

MOST_TURNS = 10000


def words_behind(words, step):
    """The words behind a step: over the words ahead of it all that its blocks say."""
    if not isinstance(words, Standing):
        raise BadWords("words")
    need_step(step)
    for block in blocks_of_step(step):
        words = words | block.words
    return words


def turns(step):
    """How many turns a step has, those of tolds within it counted."""
    need_step(step)
    if isinstance(step, Block):
        return 0
    return step.count * (1 + sum([turns(item) for item in step.members]))


def block_shift(machine, words, block, axis):
    """The shift of a block on an axis."""
    need_machine(machine)
    need_number_words(machine, words)
    if not isinstance(block, Block):
        raise BadBlock("block")
    need_axis(machine, axis)
    need_fit([block], machine)
    return shift_of_step(machine, words, block, axis)


def turn_shift(machine, words, told, axis):
    """The shift of the first turn of a told on an axis."""
    need_told(machine, words, told, axis)
    return shift_of(machine, turn_effect(len(machine.registers), words.row, told, axis))


def told_shift(machine, words, told, axis):
    """The shift of a whole told on an axis."""
    need_told(machine, words, told, axis)
    return shift_of_step(machine, words, told, axis)


def step_shift(machine, words, step, axis):
    """The shift of a block or a told on an axis."""
    need_machine(machine)
    need_number_words(machine, words)
    need_step(step)
    need_axis(machine, axis)
    need_fit(blocks_of_step(step), machine)
    return shift_of_step(machine, words, step, axis)


def run_shift(program, machine, run, axis, words=None):
    """The shift of the steps of a run on, but for its last place, on an axis."""
    need_both(program, machine)
    places = need_run_on(program, run)
    need_axis(machine, axis)
    ahead = first_if_none(words)
    need_number_words(machine, ahead)
    said = [said_by(step) for step in program.steps]
    effect, _ = StepEffects(program, machine, axis).of_run(places, ahead.row, said)
    return shift_of(machine, effect)


def run_words(program, run, words=None):
    """The words behind the steps of a run on, but for its last place."""
    need_program(program)
    places = need_run_on(program, run)
    behind = first_if_none(words)
    if not isinstance(behind, Standing):
        raise BadWords("words")
    for place in places[:-1]:
        behind = words_behind(behind, program[place])
    return behind


def mark_sums(program, machine, run, axis, words=None):
    """Yields for each mark of these steps the sums of the position ahead of and behind the marking block."""
    need_both(program, machine)
    places = need_run_on(program, run)
    need_axis(machine, axis)
    ahead = first_if_none(words)
    need_number_words(machine, ahead)
    if sum([turns(program[place]) for place in places[:-1]]) > MOST_TURNS:
        raise TooMany("turns", MOST_TURNS)
    held = [Sum(name) for name in machine.registers]
    for place in places[:-1]:
        step = program[place]
        for words_held, block in played_blocks(ahead, step):
            begins = held[0]
            change = change_of_block(len(held), words_held.row, block, axis)
            if change is not None:
                at, source, number = change
                held[at] = held[source] + number
            if block.is_marking:
                yield (begins, held[0])
        ahead = words_behind(ahead, step)


def first_if_none(words):
    """The first words for None."""
    return Standing.first() if words is None else words


def need_number_words(machine, words):
    """Refuses what is no Standing that says all number words, with a zero of the machine."""
    if not isinstance(words, Standing) or not words.fits(machine):
        raise BadWords("words")
    if not all([name in words.said for name in Standing.NUMBER_NAMES]):
        raise BadWords("words")


def need_step(step):
    """Refuses what is neither a block nor a told."""
    if not isinstance(step, (Block, Told)):
        raise BadProgram("step")


def need_axis(machine, axis):
    """Refuses any value that is no axis of the machine."""
    if axis not in machine:
        raise NoAxis(axis)


def need_told(machine, words, told, axis):
    """Refuses what has no shift as a told."""
    need_machine(machine)
    need_number_words(machine, words)
    if not isinstance(told, Told):
        raise BadProgram("told")
    need_axis(machine, axis)
    need_fit(told.blocks, machine)


def blocks_of_step(step):
    """The blocks of a step, in the order of the text."""
    return (step,) if isinstance(step, Block) else step.blocks


def played_blocks(words, step):
    """Yields the blocks of a step in the order in which they are done, each behind the words that hold then."""
    if isinstance(step, Block):
        yield (words | step.words, step)
        return
    for _ in range(step.count):
        for item in step.members:
            for words_held, block in played_blocks(words, item):
                yield (words_held, block)
            words = words_behind(words, item)


def shift_of(machine, effect):
    """The shift that does what an effect does."""
    names = machine.registers
    return Shift(machine, {name: Sum(names[source], number) for name, (source, number) in zip(names, effect)})


def shift_of_step(machine, words, step, axis):
    """The shift of a step that fits the machine."""
    return shift_of(machine, step_effect(len(machine.registers), words.row, step, axis))
