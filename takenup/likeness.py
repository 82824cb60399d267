"""Whether programs of one shape are alike, without what shows it."""

from takenup.blocks import Block, Numbered
from takenup.graph import MOST_POINTS
from takenup.pairfield import PairField, StepMemory, opened_ties, pair_graph
from takenup.plain_sides import PlainSides
from takenup.settle import settled
from takenup.standing import Standing
from takenup.ties import apart_ties
from takenup.word_rows import node_row, number_row, plain_row


class Likeness:
    """Tells which programs are alike on a machine. What their steps do is kept for later programs.

    For this equal steps get the same number in all programs.
    """

    def __init__(self, machine):
        self.machine = machine
        self.memories = {axis: StepMemory() for axis in machine.axes}
        self.known = {}

    def is_alike(self, program, second):
        """Whether two programs of one shape that fit the machine are alike."""
        plain = plain_row(Standing.first())
        if PlainSides(program, second, [(start, plain, plain) for start in program.starts]).parting is not None:
            return False
        graph = pair_graph(program, second, MOST_POINTS)
        row = node_row(Standing.first()) + number_row(Standing.first())
        begins = [graph.enter(start, row) for start in program.starts]
        names, other_names = self.numbers_of(program.steps), self.numbers_of(second.steps)
        ties = opened_ties(apart_ties(len(self.machine.registers)), (0, 0))
        for axis in self.machine.axes:
            field = PairField(graph, second, self.machine, axis, self.memories[axis], names, other_names)
            if settled(field, [(at, ties) for at in begins]) is None:
                return False
        return True

    def numbers_of(self, items):
        """The tuple of the numbers of blocks and tolds."""
        return tuple([self.step_number(item) for item in items])

    def step_number(self, item):
        """The number of a block or a told."""
        if isinstance(item, Block):
            kind, told = deed_key(item.deed)
            key = (item.words.row, kind, told)
        else:
            key = (item.count, self.numbers_of(item.members))
        return self.known.setdefault(key, len(self.known))


def deed_key(deed):
    """The pair of the kind of a deed, or None, and of what else it tells."""
    if deed is None:
        return (None, ())
    return (deed.KIND, deed.pairs if isinstance(deed, Numbered) else deed.axes)
