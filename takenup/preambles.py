"""Preambles: what a stopped machine is told ahead of the rest of its program."""

from takenup.blocks import Block, Move, take_block
from takenup.cursor import Cursor
from takenup.errors import BadPreamble, BadStand, BadWords
from takenup.machines import need_machine
from takenup.standing import Standing
from takenup.stands import Stand
from takenup.sums import Sum
from takenup.targets import Target


class Preamble:
    """A definite row of blocks that store nothing."""

    def __init__(self, *blocks):
        at = wrong_block(blocks)
        if at is not None:
            raise BadPreamble(at)
        self.blocks = blocks
        self.entries = tuple([entry for block in blocks for entry in block.entries])

    def __len__(self):
        return len(self.entries)

    def __eq__(self, other):
        return isinstance(other, Preamble) and self.blocks == other.blocks

    def __iter__(self):
        return iter(self.blocks)

    def __add__(self, other):
        blocks = self.blocks + other.blocks
        return Preamble(*blocks)

    def fits(self, machine):
        """Whether the machine has each axis that a deed names and each zero that is said."""
        need_machine(machine)
        return all([block.fits(machine) for block in self.blocks])

    def outcome(self, machine):
        """The target that the blocks bring about."""
        need_fitting_blocks(machine, self.blocks)
        words, held = gone_through(machine, self.blocks)
        return brought_about(words, held)

    def stages(self, machine):
        """Yields the outcomes of the first block, of the first two, and so on."""
        need_fitting_blocks(machine, self.blocks)
        words, held = gone_through(machine, ())
        for block in self.blocks:
            words = words | block.words
            held = held_behind(held, words, block)
            yield brought_about(words, held)

    def made(self, machine, stand, words):
        """The stand and the words behind the blocks, if the machine stood so, with these words."""
        need_fitting_blocks(machine, self.blocks)
        if not isinstance(stand, Stand) or stand.machine != machine:
            raise BadStand("stand")
        if not isinstance(words, Standing):
            raise BadWords("words")
        said, held = gone_through(machine, self.blocks)
        numbers = {axis: held[axis].value_in(stand.numbers(axis)) for axis in held}
        return (stand.with_positions(**numbers), words | said)

    def __str__(self):
        return str(" ; ".join([str(block) for block in self.blocks]) or "nothing")

    @staticmethod
    def read(text):
        """The preamble with this text."""
        cursor = Cursor(text)
        blocks = []
        if not cursor.take_if("nothing"):
            blocks.append(take_block(cursor))
            while cursor.take_if(";"):
                blocks.append(take_block(cursor))
        cursor.need_end()
        return Preamble(*blocks)


def wrong_block(blocks):
    """The index of the first of any values that is no block, that stores or is not definite; None without any."""
    said = Standing()
    for at, block in enumerate(blocks):
        if not isinstance(block, Block) or block.is_storing:
            return at
        said = said | block.words
        if block.is_marking and not is_definite(said, block.deed):
            return at
    return None


def is_definite(said, deed):
    """Whether what is said by then is enough for a deed that marks."""
    if said.way != "rapid":
        return False
    if not isinstance(deed, Move):
        return True
    if said.reading is None or said.reading == "far" and said.zero is None:
        return False
    return said.unit is not None or all([number == 0 for _, number in deed])


def need_fitting_blocks(machine, blocks):
    """Refuses what is no machine, and the first block that does not fit it."""
    need_machine(machine)
    for at, block in enumerate(blocks):
        if not block.fits(machine):
            raise BadPreamble(at)


def gone_through(machine, blocks):
    """The words that the blocks say, and for each axis the sum, of the registers ahead of them, where it stands."""
    words = Standing()
    held = {axis: Sum("p") for axis in machine.axes}
    for block in blocks:
        words = words | block.words
        held = held_behind(held, words, block)
    return words, held


def held_behind(held, words, block):
    """The sum of each axis behind a block whose deed is done under these words."""
    return {axis: moved_sum(held[axis], words, block.deed, axis) if axis in block.axes else held[axis] for axis in held}


def moved_sum(told, words, deed, axis):
    """The sum of an axis behind a deed that names it."""
    if deed.KIND == "home":
        return Sum("o")
    if deed.KIND == "touch":
        return Sum("s")
    begun = Sum(f"z{words.zero}") if words.reading == "far" else told
    number = deed[axis]
    return begun if number == 0 else begun + words.length * number


def brought_about(words, held):
    """The target that says these words and has the sums of the axes that are at a kept register."""
    sums = {axis: held[axis] for axis in held if held[axis].source != "p"}
    return Target(words, **sums)
