"""Items of programs: blocks, and the groups skip, round and told."""

from takenup.blocks import Block
from takenup.checks import is_within
from takenup.errors import BadProgram

TOLD_DEPTH = 2


class Group:
    """The base of groups."""

    DEPTH = 6


class Counted:
    """Beside the group whose items are gone through a told number of times."""

    MOST = 1000000000000


class Skip(Group):
    """Items that are gone through once, or passed."""

    KIND = "skip"

    def __init__(self, *items):
        need_items(items)
        self.members = items
        self.depth = depth_over(items, Group.DEPTH)
        self.blocks = blocks_in(items)

    def __len__(self):
        return len(self.members)

    def __iter__(self):
        return iter(self.members)

    def __contains__(self, x):
        return x in self.blocks

    def with_items(self, *items):
        """A skip with these items."""
        return Skip(*items)

    def __eq__(self, other):
        return isinstance(other, Skip) and self.members == other.members

    def __str__(self):
        return f"skip ( {row_text(self.members)} )"


class Round(Group):
    """Items that are gone through once or more."""

    KIND = "round"

    def __init__(self, *items):
        need_items(items)
        self.members = items
        self.depth = depth_over(items, Group.DEPTH)
        self.blocks = blocks_in(items)

    def __len__(self):
        return len(self.members)

    def __iter__(self):
        return iter(self.members)

    def __contains__(self, x):
        return x in self.blocks

    def with_items(self, *items):
        """A round with these items."""
        return Round(*items)

    def __eq__(self, other):
        return isinstance(other, Round) and self.members == other.members

    def __str__(self):
        return f"round ( {row_text(self.members)} )"


class Told(Group, Counted):
    """Blocks and tolds that are gone through as often as the count tells."""

    KIND = "told"
    BLOCKS = 12

    def __init__(self, count, *items):
        if not is_within(count, 1, Counted.MOST):
            raise BadProgram("count")
        need_told_items(items)
        self.count = count
        self.members = items
        self.depth = depth_over(items, TOLD_DEPTH)
        self.blocks = blocks_in(items)
        if len(self.blocks) > Told.BLOCKS:
            raise BadProgram("blocks")

    def __len__(self):
        return len(self.members)

    def __iter__(self):
        return iter(self.members)

    def __contains__(self, x):
        return x in self.blocks

    def with_items(self, *items):
        """A told with the same count and these items."""
        return Told(self.count, *items)

    def __eq__(self, other):
        return isinstance(other, Told) and self.count == other.count and self.members == other.members

    def __str__(self):
        return f"told {self.count} ( {row_text(self.members)} )"


def need_items(items):
    """Refuses a row without an item, or with what is no item."""
    if len(items) == 0 or not all([isinstance(item, (Block, Skip, Round, Told)) for item in items]):
        raise BadProgram("items")


def need_told_items(items):
    """Refuses a row without an item, or with what is no item of a told."""
    if len(items) == 0 or not all([isinstance(item, (Block, Told)) for item in items]):
        raise BadProgram("items")


def depth_over(items, most):
    """The depth of a group with these items, if it is not too great."""
    depth = 1 + max([int(depth_of(item)) for item in items])
    if depth > most:
        raise BadProgram("depth")
    return depth


def depth_of(item):
    """The depth of an item."""
    return 0 if isinstance(item, Block) else item.depth


def blocks_in(items):
    """The tuple of all blocks in items, in the order of the text."""
    blocks = []
    for item in items:
        if isinstance(item, Block):
            blocks.append(item)
        else:
            blocks.extend(item.blocks)
    return tuple(blocks)


def steps_in(items):
    """The tuple of all steps in items, in the order of the text."""
    steps = []
    for item in items:
        if isinstance(item, (Block, Told)):
            steps.append(item)
        else:
            steps.extend(steps_in(item.members))
    return tuple(steps)


def row_text(items):
    """The text of items, one behind the other."""
    return " ; ".join([str(item) for item in items])


def row_shape(items):
    """The text of items with b for each block."""
    return " ; ".join([item_shape(item) for item in items])


def item_shape(item):
    """The text of an item with b for each block."""
    if isinstance(item, Block):
        return "b"
    if isinstance(item, Told):
        return f"told {item.count} ( {row_shape(item.members)} )"
    return f"{item.KIND} ( {row_shape(item.members)} )"
