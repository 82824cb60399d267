"""Values of the kinds that have a word and a text of their own, and reading what lies ahead as such a text."""

from takenup.blocks import Block, Numbered
from takenup.checks import is_integer
from takenup.errors import BadText, ToolError
from takenup.machines import Machine
from takenup.maps import Shift
from takenup.marks import Mark
from takenup.preambles import Preamble
from takenup.programs import Program
from takenup.standing import Standing
from takenup.stands import Stand
from takenup.sums import Sum
from takenup.targets import Target

# The first integer with more digits than one in a text can have.
BEYOND = 1000000000000000000000000000000000000000000000000000000000000


def read_machine(text):
    """The machine with this text."""
    return Machine.read(text)


def read_words_value(text):
    """The words with this text."""
    return Standing.read(text)


def read_block(text):
    """The block with this text."""
    return Block.read(text)


def read_program(text):
    """The program with this text."""
    return Program.read(text)


def read_sum(text):
    """The sum with this text."""
    return Sum.read(text)


def read_shift(text):
    """The shift with this text."""
    return Shift.read(text)


def read_stand(text):
    """The stand with this text."""
    return Stand.read(text)


def read_mark(text):
    """The mark with this text."""
    return Mark.read(text)


def read_target(text):
    """The target with this text."""
    return Target.read(text)


def read_preamble(text):
    """The preamble with this text."""
    return Preamble.read(text)


READERS = {
    "words": read_words_value,
    "block": read_block,
    "program": read_program,
    "sum": read_sum,
    "shift": read_shift,
    "stand": read_stand,
    "mark": read_mark,
    "target": read_target,
    "preamble": read_preamble,
}


def take_text(cursor, read, many):
    """What a reader reads from so many words ahead; without any, the word behind them cannot stand.

    If the reader refuses them as a whole, the word behind them cannot stand either.
    """
    if many == 0:
        cursor.refuse()
    begin = cursor.at
    text = " ".join(cursor.words[begin:begin + many])
    try:
        value = read(text)
    except BadText as wrong:
        raise BadText(0, begin + wrong.word)
    except ToolError:
        raise BadText(0, begin + many)
    cursor.at = begin + many
    return value


def kind_of(value):
    """The word of the kind of any value, None if it is of no kind."""
    if isinstance(value, Standing):
        return "words"
    if isinstance(value, Block):
        return "block"
    if isinstance(value, Program):
        return "program"
    if isinstance(value, Sum):
        return "sum"
    if isinstance(value, Shift):
        return "shift"
    if isinstance(value, Stand):
        return "stand"
    if isinstance(value, Mark):
        return "mark"
    if isinstance(value, Target):
        return "target"
    return "preamble" if isinstance(value, Preamble) else None


def kind_text(kind, value):
    """The text of a value of a kind with its word ahead, None if its class does not read it back as it is."""
    if not all([is_short(number) for number in numbers_in(kind, value)]):
        return None
    text = str(value)
    read = READERS[kind]
    try:
        again = read(text)
    except ToolError:
        return None
    return f"{kind} {text}" if again == value else None


def is_short(value):
    """Whether any value is an integer that can stand in a text."""
    return is_integer(value) and -BEYOND < value < BEYOND


def numbers_in(kind, value):
    """The list of all numbers in a value of a kind; what stands there instead of a number counts, too."""
    if kind == "sum":
        return [value.number]
    if kind in ("shift", "target"):
        return [told.number for _, told in value.pairs]
    if kind == "stand":
        return [number for _, _, number in value]
    if kind == "mark":
        return numbers_in_mark(value)
    if kind == "block":
        return numbers_in_blocks([value])
    return numbers_in_blocks(value.blocks) if kind in ("program", "preamble") else []


def numbers_in_blocks(blocks):
    """The list of all numbers in blocks."""
    return [number for block in blocks if isinstance(block.deed, Numbered) for _, number in block.deed]


def numbers_in_mark(mark):
    """The list of all that is written in a mark as a number, and None for what cannot be written at all."""
    rows = [mark.ends] if mark.begins is None else [mark.ends, mark.begins, (mark.tool, mark.pace)]
    words = [mark.way] if mark.begins is None else [mark.way, mark.spindle]
    numbers = [None for word in words if not isinstance(word, str)]
    for row in rows:
        numbers.extend(row if isinstance(row, tuple) else (None,))
    return numbers
