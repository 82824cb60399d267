"""Blocks: words that are said, and at most one deed."""

from takenup.checks import is_integer
from takenup.cursor import Cursor
from takenup.errors import BadBlock, NoAxis
from takenup.machines import Machine, is_axis
from takenup.standing import Standing, take_words, word_texts


class Deed:
    """The base of deeds."""


class Numbered(Deed):
    """The base of deeds with a number for each axis that they name."""


class Named(Deed):
    """The base of deeds that just name axes."""


class Marking:
    """Beside the deeds that tell a mark."""


class Storing:
    """Beside the deeds that change a zero."""


class Move(Numbered, Marking):
    """Moves the tool along the named axes, from the zero or from where it is."""

    KIND = "move"

    def __init__(self, **numbers):
        self.pairs = numbered(numbers)
        self.axes = axes_of(self.pairs)

    def __len__(self):
        return len(self.axes)

    def __eq__(self, other):
        return isinstance(other, Move) and self.pairs == other.pairs

    def __getitem__(self, at):
        return number_at(self.pairs, at)

    def __iter__(self):
        return iter(self.pairs)

    def renumbered(self, **numbers):
        """A move with these numbers."""
        return Move(**numbers)

    def __str__(self):
        return str(pairs_text(self.pairs))


class Here(Numbered, Storing):
    """Lays the zero so that the tool is at these numbers."""

    KIND = "here"

    def __init__(self, **numbers):
        self.pairs = numbered(numbers)
        self.axes = axes_of(self.pairs)

    def __len__(self):
        return len(self.axes)

    def __eq__(self, other):
        return isinstance(other, Here) and self.pairs == other.pairs

    def __getitem__(self, at):
        return number_at(self.pairs, at)

    def __iter__(self):
        return iter(self.pairs)

    def renumbered(self, **numbers):
        """A here with these numbers."""
        return Here(**numbers)

    def __str__(self):
        return f"here {pairs_text(self.pairs)}"


class Lay(Numbered, Storing):
    """Lays the zero on by these numbers."""

    KIND = "lay"

    def __init__(self, **numbers):
        self.pairs = numbered(numbers)
        self.axes = axes_of(self.pairs)

    def __len__(self):
        return len(self.axes)

    def __eq__(self, other):
        return isinstance(other, Lay) and self.pairs == other.pairs

    def __getitem__(self, at):
        return number_at(self.pairs, at)

    def __iter__(self):
        return iter(self.pairs)

    def renumbered(self, **numbers):
        """A lay with these numbers."""
        return Lay(**numbers)

    def __str__(self):
        return f"lay {pairs_text(self.pairs)}"


class Home(Named, Marking):
    """Moves the tool to the origin of the named axes."""

    KIND = "home"

    def __init__(self, *axes):
        self.axes = named(axes)

    def __len__(self):
        return len(self.axes)

    def __eq__(self, other):
        return isinstance(other, Home) and self.axes == other.axes

    def renamed(self, *axes):
        """A home of these axes."""
        return Home(*axes)

    def __str__(self):
        return f"home {axes_text(self.axes)}"


class Touch(Named, Marking):
    """Moves the tool to the surface of the named axes."""

    KIND = "touch"

    def __init__(self, *axes):
        self.axes = named(axes)

    def __len__(self):
        return len(self.axes)

    def __eq__(self, other):
        return isinstance(other, Touch) and self.axes == other.axes

    def renamed(self, *axes):
        """A touch of these axes."""
        return Touch(*axes)

    def __str__(self):
        return f"touch {axes_text(self.axes)}"


class Block:
    """The words that a block says, and its deed or None."""

    def __init__(self, words=None, deed=None):
        if words is not None and not isinstance(words, Standing):
            raise BadBlock("words")
        if deed is not None and not isinstance(deed, (Move, Here, Lay, Home, Touch)):
            raise BadBlock("deed")
        self.words = Standing() if words is None else words
        self.deed = deed
        self.axes = () if deed is None else deed.axes
        self.entries = word_texts(self.words) + self.axes
        self.is_marking = isinstance(deed, Marking)
        self.is_storing = isinstance(deed, Storing)

    def __eq__(self, other):
        return isinstance(other, Block) and self.words == other.words and self.deed == other.deed

    def __or__(self, other):
        return Block(self.words | other, self.deed)

    def __sub__(self, other):
        return Block(self.words - other, self.deed)

    def fits(self, machine):
        """Whether the words fit, and the machine has each axis that the deed names."""
        return self.words.fits(machine) and all([axis in machine for axis in self.axes])

    def __str__(self):
        return str(block_text(self))

    @staticmethod
    def read(text):
        """The block with this text."""
        cursor = Cursor(text)
        block = take_block(cursor)
        cursor.need_end()
        return block


def numbered(numbers):
    """The pairs of an axis and its number, axes in order, of the keywords of a deed."""
    if len(numbers) == 0 or not all([is_axis(name) for name in numbers]):
        raise BadBlock("axes")
    pairs = [(axis, numbers[axis]) for axis in Machine.AXES if axis in numbers]
    for axis, number in pairs:
        if not is_integer(number):
            raise BadBlock(axis)
    return tuple(pairs)


def axes_of(pairs):
    """The axes of pairs of an axis and a number."""
    return tuple([axis for axis, _ in pairs])


def number_at(pairs, axis):
    """The number of an axis."""
    for name, number in pairs:
        if name == axis:
            return number
    raise NoAxis(axis)


def named(axes):
    """The axes in order, of the arguments of a deed."""
    if len(axes) == 0 or not all([is_axis(axis) for axis in axes]):
        raise BadBlock("axes")
    ordered = [axis for axis in Machine.AXES if axis in axes]
    if len(ordered) < len(axes):
        raise BadBlock("axes")
    return tuple(ordered)


def pairs_text(pairs):
    """The text of axes and their numbers."""
    return " ".join([f"{axis} {number}" for axis, number in pairs])


def axes_text(axes):
    """The text of axes."""
    return " ".join(axes)


def block_text(block):
    """The text of a block."""
    texts = [*word_texts(block.words)]
    if block.deed is not None:
        texts.append(str(block.deed))
    return " ".join(texts) or "-"


def take_block(cursor):
    """The block whose text lies ahead."""
    words = take_words(cursor)
    deed = take_deed(cursor)
    if deed is None and len(words) == 0:
        cursor.need_word("-")
    return Block(words, deed)


def take_deed(cursor):
    """The deed whose text lies ahead, None if none begins there."""
    if is_axis(cursor.ahead()):
        numbers = take_numbers(cursor)
        return Move(**numbers)
    if cursor.take_if("here"):
        numbers = take_numbers(cursor)
        return Here(**numbers)
    if cursor.take_if("lay"):
        numbers = take_numbers(cursor)
        return Lay(**numbers)
    if cursor.take_if("home"):
        axes = take_axes(cursor)
        return Home(*axes)
    if cursor.take_if("touch"):
        axes = take_axes(cursor)
        return Touch(*axes)
    return None


def take_numbers(cursor):
    """The dict of one axis or more and their numbers, which lie ahead."""
    numbers = {}
    for axis in Machine.AXES:
        if cursor.take_if(axis):
            numbers[axis] = cursor.take_integer()
    if len(numbers) == 0:
        cursor.refuse()
    return numbers


def take_axes(cursor):
    """The row of one axis or more, which lie ahead."""
    axes = []
    for axis in Machine.AXES:
        if cursor.take_if(axis):
            axes.append(axis)
    if len(axes) == 0:
        cursor.refuse()
    return axes
