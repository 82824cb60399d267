"""Two machines that are played side by side, block by block, with symbols for what the registers hold at first."""

from plain_play import do_block
from takenup.blocks import Block


class Symbol:
    """What some register held at first, and a number."""

    def __init__(self, source, number=0):
        self.source = source
        self.number = number

    def __add__(self, more):
        return Symbol(self.source, self.number + more)

    def __sub__(self, less):
        return Symbol(self.source, self.number - less)

    def __eq__(self, other):
        return (self.source, self.number) == (other.source, other.number)

    def __repr__(self):
        return f"{self.source}{self.number:+d}"


def symbols(machine, prefix=""):
    """A symbol for each register of each axis."""
    return {axis: {name: Symbol(prefix + name) for name in machine.registers} for axis in machine.axes}


def blocks_in_play(step, most=None):
    """Yields inside and block of each block of a step as it is played, tolds up to so many turns."""
    if isinstance(step, Block):
        yield (), step
        return
    for turn in range(step.count if most is None else min(step.count, most)):
        for at, item in enumerate(step):
            for inside, block in blocks_in_play(item, most):
                yield (turn, at) + inside, block


def is_marking(block):
    return block.deed is not None and block.deed.KIND in ("move", "home", "touch")


def compared(machine, block, other_block, words, numbers, other_words, other_numbers):
    """Does both blocks; yields what, axis (None for a plain spot) and both values for each spot."""
    ahead = {axis: (numbers[axis]["p"], other_numbers[axis]["p"]) for axis in machine.axes}
    do_block(words, numbers, block)
    do_block(other_words, other_numbers, other_block)
    yield "mark", None, is_marking(block), is_marking(other_block)
    if is_marking(block) and is_marking(other_block):
        yield "way", None, words["way"], other_words.get("way")
        if words["way"] == "cut":
            for name in ("tool", "pace", "spindle"):
                yield name, None, words[name], other_words.get(name)
        for axis in machine.axes:
            if words["way"] == "cut":
                yield "begins", axis, *ahead[axis]
            yield "ends", axis, numbers[axis]["p"], other_numbers[axis]["p"]
    for axis in machine.axes:
        for at in range(machine.zeros):
            yield f"z{at}", axis, numbers[axis][f"z{at}"], other_numbers[axis][f"z{at}"]


def spots(program, second, machine, run_on, words, numbers, other_words, other_numbers, most=None):
    """Plays both machines along a run on; yields its beginning up to the step, inside, and the four of each spot."""
    for at, place in enumerate(run_on[:-1]):
        step, other_step = program.steps[place], second.steps[place]
        other_blocks = blocks_in_play(other_step, most)
        for inside, block in blocks_in_play(step, most):
            other_block = next(other_blocks)[1]
            for spot in compared(machine, block, other_block, words, numbers, other_words, other_numbers):
                yield (run_on[:at + 2], inside, *spot)
