"""Where two machines that do corresponding steps are compared, and what must hold for them to agree.

A want is told as a row: the registers of the first and of the other machine by their indexes, the number, and where it
is asked: inside of the step, and what. Rows of words of the first machine say the node words or the plain words.
"""

from takenup.blocks import Block
from takenup.effects import block_effect, joined_effect, raised_effect, same_effect
from takenup.word_rows import NUMBERS, WAY, laid, plain_row, said_by


class FewWants:
    """Keeps of the wants of each pair the first one, and the first one with another number."""

    def __init__(self):
        self.rows = []
        self.asked = {}

    def take(self, want):
        """Takes a want, if it is one of these."""
        numbers = self.asked.setdefault(want[:2], [])
        if len(numbers) < 2 and want[2] not in numbers:
            numbers.append(want[2])
            self.rows.append(want)


def pulled_want(want, effect, other_effect, inside):
    """The want ahead of an effect on each machine, asked from further inside."""
    one, other, number, within, what = want
    source, added = effect[one]
    other_source, other_added = other_effect[other]
    return (source, other_source, number + other_added - added, inside + within, what)


def step_wants(many, axis, step, second, row, other_row):
    """The list of the wants of two steps on an axis with so many registers, with the effects of both."""
    if isinstance(step, Block):
        return block_wants(many, axis, step, second, row, other_row)
    first = turn_wants(many, axis, step, second, row, other_row)
    row, other_row = laid(row, said_by(step)), laid(other_row, said_by(second))
    later = turn_wants(many, axis, step, second, row, other_row)
    wants, effect, other_effect = first
    few = FewWants()
    for want in wants:
        few.take(pulled_want(want, same_effect(many), same_effect(many), (0,)))
    wants, added, other_added = later
    for turn in range(1, min(int(step.count), int(1 + most_turns(later)))):
        for want in wants:
            few.take(pulled_want(want, effect, other_effect, (turn,)))
        effect, other_effect = joined_effect(effect, added), joined_effect(other_effect, other_added)
    whole = joined_effect(first[1], raised_effect(added, step.count - 1))
    return few.rows, whole, joined_effect(first[2], raised_effect(other_added, step.count - 1))


def most_turns(later):
    """Behind how many later turns all wants of a later turn have come about, the second ones of each pair, too.

    Turn by turn backwards, a pair goes through some pairs once, then round a ring of pairs. In its second time round
    the ring each number is either as before or the second one of its pair.
    """
    wants, effect, other_effect = later
    most = 0
    for want in wants:
        pair = want[:2]
        seen = {}
        while pair not in seen:
            seen[pair] = len(seen)
            pair = (effect[pair[0]][0], other_effect[pair[1]][0])
        most = max(int(most), int(2 * len(seen) - seen[pair]))
    return most


def turn_wants(many, axis, told, second, row, other_row):
    """The list of the wants of a turn of two tolds, with the effects of both."""
    effect, other_effect = same_effect(many), same_effect(many)
    few = FewWants()
    for at, item in enumerate(told.members):
        other_item = second.members[at]
        wants, added, other_added = step_wants(many, axis, item, other_item, row, other_row)
        for want in wants:
            few.take(pulled_want(want, effect, other_effect, (at,)))
        effect, other_effect = joined_effect(effect, added), joined_effect(other_effect, other_added)
        row, other_row = laid(row, said_by(item)), laid(other_row, said_by(other_item))
    return few.rows, effect, other_effect


def block_wants(many, axis, block, second, row, other_row):
    """The list of the wants of two blocks, with the effects of both."""
    effect = block_effect(many, row, block, axis)
    other_effect = block_effect(many, other_row, second, axis)
    few = FewWants()
    if block.is_marking and second.is_marking:
        if laid(row, block.words.row)[WAY] == "cut":
            few.take((0, 0, 0, (), "begins"))
        few.take(pulled_want((0, 0, 0, (), "ends"), effect, other_effect, ()))
    for at in range(1, many - 2):
        few.take(pulled_want((at, at, 0, (), f"z{at - 1}"), effect, other_effect, ()))
    return few.rows, effect, other_effect


def parted_plain(step, second, row, other_row):
    """The pair of inside and what of the first plain spot of two steps at which machines part, None if they agree.

    The rows of both say the plain words.
    """
    if isinstance(step, Block):
        return parted_plain_block(step, second, row, other_row)
    for turn in range(min(int(step.count), 2)):
        for at, item in enumerate(step.members):
            other_item = second.members[at]
            parted = parted_plain(item, other_item, row, other_row)
            if parted is not None:
                inside, what = parted
                return ((turn, at) + inside, what)
            row, other_row = laid_plain(row, item), laid_plain(other_row, other_item)
    return None


def laid_plain(row, item):
    """The row of plain words behind a block or a told."""
    return laid(row, said_by(item)[NUMBERS:])


def parted_plain_block(block, second, row, other_row):
    """Likewise for two blocks."""
    if block.is_marking != second.is_marking:
        return ((), "mark")
    if not block.is_marking:
        return None
    way, tool, pace, spindle = laid(row, plain_row(block.words))
    other_way, other_tool, other_pace, other_spindle = laid(other_row, plain_row(second.words))
    if way != other_way:
        return ((), "way")
    if way == "rapid":
        return None
    compared = (("tool", tool, other_tool), ("pace", pace, other_pace), ("spindle", spindle, other_spindle))
    parted = [((), what) for what, value, other_value in compared if value != other_value]
    return parted[0] if len(parted) > 0 else None
