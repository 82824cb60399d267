"""Programs: items one behind the other, and the steps in them."""

from takenup.blocks import Block
from takenup.checks import is_within
from takenup.errors import BadBlock, BadProgram, NoPlace, TooMany
from takenup.follow import next_places, row_flow, start_places
from takenup.items import Told, blocks_in, need_items, row_shape, row_text, steps_in
from takenup.program_text import ProgramReader


class Program:
    """One or more items, with 1 to 40 steps in them."""

    STEPS = 40

    def __init__(self, *items):
        need_items(items)
        steps = steps_in(items)
        if len(steps) > Program.STEPS:
            raise TooMany("steps", Program.STEPS)
        flow = row_flow(items, 0)
        self.members = items
        self.steps = steps
        self.end = len(steps)
        self.blocks = blocks_in(items)
        self.shape = row_shape(items)
        self.starts = start_places(flow, len(steps))
        self.followers = next_places(flow, len(steps))

    def __len__(self):
        return len(self.steps)

    def __iter__(self):
        return iter(self.steps)

    def __getitem__(self, at):
        if not is_within(at, 0, self.end - 1):
            raise NoPlace(at)
        return self.steps[at]

    def __contains__(self, x):
        return x in self.blocks

    def after(self, place):
        """The ascending tuple of the next places of a place."""
        if not is_within(place, 0, self.end):
            raise NoPlace(place)
        return self.followers[place]

    def inner(self, place):
        """Yields inside for each block of a step."""
        step = self[place]
        yield from insides(step)

    def block_at(self, place, *inside):
        """The block of a step that is found by inside."""
        block = found_inside(self[place], inside)
        if block is None:
            raise BadProgram("inside")
        return block

    def with_block(self, place, block, *inside):
        """The program with another block in the place of that one."""
        self.block_at(place, *inside)
        if not isinstance(block, Block):
            raise BadBlock("block")
        items = replaced(self.members, place, inside, block)
        return Program(*items)

    def sites(self):
        """Yields the pair of place and inside for each block."""
        for place, step in enumerate(self.steps):
            for inside in insides(step):
                yield (place, inside)

    def __add__(self, other):
        if not isinstance(other, Program):
            raise BadProgram("other")
        items = self.members + other.members
        return Program(*items)

    def __mul__(self, other):
        if not is_within(other, 1, Program.STEPS):
            raise BadProgram("times")
        items = self.members * other
        return Program(*items)

    def items_from(self, low, high):
        """The program of the items with indexes from low below high."""
        if not is_within(high, 1, len(self.members)) or not is_within(low, 0, high - 1):
            raise BadProgram("items")
        items = self.members[low:high]
        return Program(*items)

    def __eq__(self, other):
        return isinstance(other, Program) and self.members == other.members

    def __str__(self):
        return str(row_text(self.members))

    @staticmethod
    def read(text):
        """The program with this text."""
        reader = ProgramReader(text, Program.STEPS)
        items = reader.read_program()
        return Program(*items)


def insides(step):
    """Yields inside for each block of a step."""
    if isinstance(step, Told):
        for at, item in enumerate(step.members):
            for inside in insides(item):
                yield (at, *inside)
    else:
        yield ()


def found_inside(step, inside):
    """The block of a step to which the indexes lead; None if they lead to none, or further."""
    item = step
    for at in inside:
        if not isinstance(item, Told) or not is_within(at, 0, len(item.members) - 1):
            return None
        item = item.members[at]
    return item if isinstance(item, Block) else None


def replaced(items, place, inside, block):
    """The items, in which the block that is found by place and inside is another one."""
    changed = []
    for item in items:
        many = len(steps_in([item]))
        changed.append(replaced_item(item, place, inside, block) if 0 <= place < many else item)
        place = place - many
    return changed


def replaced_item(item, place, inside, block):
    """The item, in which the block that is found by place and inside is another one."""
    if isinstance(item, Block):
        return block
    if isinstance(item, Told):
        at = inside[0]
        members = [*item.members]
        members[at] = replaced_item(members[at], 0, inside[1:], block)
    else:
        members = replaced(item.members, place, inside, block)
    return item.with_items(*members)
