"""Two machines that are played side by side, block by block, with symbols for what the registers hold at first."""

from kinds import random_block
from plain_play import FIRST, do_block, do_run
from takenup.blocks import Block
from takenup.programs import Program
from takenup.stepping import run_words, step_shift, words_behind


class Symbol:
    """What some register held at first, and a number."""

    def __init__(self, source, number=0):
        self.source = source
        self.number = number

    def __add__(self, more):
        return Symbol(self.source, self.number + more)

    def __sub__(self, less):
        return Symbol(self.source, self.number - less)

    def __eq__(self, other):
        return (self.source, self.number) == (other.source, other.number)

    def __repr__(self):
        return f"{self.source}{self.number:+d}"


def symbols(machine, prefix=""):
    """A symbol for each register of each axis."""
    return {axis: {name: Symbol(prefix + name) for name in machine.registers} for axis in machine.axes}


def blocks_in_play(step, most=None):
    """Yields inside and block of each block of a step as it is played, tolds up to so many turns."""
    if isinstance(step, Block):
        yield (), step
        return
    for turn in range(step.count if most is None else min(step.count, most)):
        for at, item in enumerate(step):
            for inside, block in blocks_in_play(item, most):
                yield (turn, at) + inside, block


def is_marking(block):
    return block.deed is not None and block.deed.KIND in ("move", "home", "touch")


def compared(machine, block, other_block, words, numbers, other_words, other_numbers):
    """Does both blocks; yields what, axis (None for a plain spot) and both values for each spot."""
    ahead = {axis: (numbers[axis]["p"], other_numbers[axis]["p"]) for axis in machine.axes}
    do_block(words, numbers, block)
    do_block(other_words, other_numbers, other_block)
    yield "mark", None, is_marking(block), is_marking(other_block)
    if is_marking(block) and is_marking(other_block):
        yield "way", None, words["way"], other_words.get("way")
        if words["way"] == "cut":
            for name in ("tool", "pace", "spindle"):
                yield name, None, words[name], other_words.get(name)
        for axis in machine.axes:
            if words["way"] == "cut":
                yield "begins", axis, *ahead[axis]
            yield "ends", axis, numbers[axis]["p"], other_numbers[axis]["p"]
    for axis in machine.axes:
        for at in range(machine.zeros):
            yield f"z{at}", axis, numbers[axis][f"z{at}"], other_numbers[axis][f"z{at}"]


def spots(program, second, machine, run_on, words, numbers, other_words, other_numbers, most=None):
    """Plays both machines along a run on; yields its beginning up to the step, inside, and the four of each spot."""
    for at, place in enumerate(run_on[:-1]):
        step, other_step = program.steps[place], second.steps[place]
        other_blocks = blocks_in_play(other_step, most)
        for inside, block in blocks_in_play(step, most):
            other_block = next(other_blocks)[1]
            for spot in compared(machine, block, other_block, words, numbers, other_words, other_numbers):
                yield (run_on[:at + 2], inside, *spot)


def other_words_of(words):
    """A dict of all words of the other machine, of which some may be left."""
    return {"reading": "far", "unit": "fine", "zero": 0, **dict(words)}


def parts_at(program, second, machine, axis, other, held, parting):
    """Whether the machines part at the spot of a Parting, played from its run; None if nothing is compared there.

    The other machine begins with the words other, and with what a Sum, held, tells as its position.
    """
    words, numbers = dict(FIRST), symbols(machine)
    do_run(words, numbers, program, parting.run)
    other_numbers = {name: dict(row) for name, row in numbers.items()}
    for name, row in other_numbers.items():
        row["p"] = Symbol("hand " + name) if held is None else numbers[name][held.source] + held.number
    played = spots(
        program, second, machine, parting.run_on, words, numbers, other_words_of(other), other_numbers
    )
    for run_on, inside, what, found, one, another in played:
        if (run_on, inside, what, found) == (parting.run_on, parting.inside, parting.what, axis):
            return not one == another
    return None


def wanted_there(program, machine, axis, other, parting):
    """The want of a Parting at its place: by the wants of its step, pulled back along its run on.

    It is told by the register of the first machine, that of the other one, which has the words other, and the number.
    """
    words = run_words(program, parting.run)
    shifts = []
    for place in parting.run_on[:-2]:
        step = program[place]
        shifts.append((step_shift(machine, words, step, axis), step_shift(machine, other, step, axis)))
        words, other = words_behind(words, step), words_behind(other, step)
    one, another, number = want_inside(machine, axis, words, program[parting.run_on[-2]], other, parting)
    for shift, other_shift in reversed(shifts):
        first, last = shift[one], other_shift[another]
        one, another, number = first.source, last.source, number + last.number - first.number
    return one, another, number


def want_inside(machine, axis, words, step, other, parting):
    numbers, other_numbers = symbols(machine), symbols(machine)
    held, other_held = dict(words), {"way": "rapid", "tool": 0, "pace": 0, "spindle": "still", **dict(other)}
    for inside, block in blocks_in_play(step):
        for what, at, one, another in compared(machine, block, block, held, numbers, other_held, other_numbers):
            if (inside, what, at) == (parting.inside, parting.what, axis):
                return one.source, another.source, another.number - one.number
    return None


def other_block(chance, block, axes, zeros):
    """A block that is the same, or another one."""
    return random_block(chance, axes, zeros) if chance.random() < 0.3 else block


def other_item(chance, item, axes, zeros):
    """An item of the same shape, with some blocks that are others."""
    if isinstance(item, Block):
        return other_block(chance, item, axes, zeros)
    return item.with_items(*[other_item(chance, one, axes, zeros) for one in item])


def other_program(chance, program, axes, zeros):
    """A program of the same shape, with some blocks that are others."""
    return Program(*[other_item(chance, item, axes, zeros) for item in program.members])


def program_with_one_other_block(chance, program, axes, zeros):
    """A program of the same shape, with one block that is another one or says another word."""
    place, inside = chance.choice(list(program.sites()))
    block = program.block_at(place, *inside)
    roll = chance.random()
    if roll < 0.4 and len(block.words) > 0:
        block = Block(block.words.with_word(chance.choice(block.words.said), None), block.deed)
    elif roll < 0.8:
        block = block | random_block(chance, axes, zeros).words
    else:
        block = random_block(chance, axes, zeros)
    return program.with_block(place, block, *inside)
