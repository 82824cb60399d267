"""Standing words as rows: tuples with a value for each of some names, in order, None for a word that is left.

Rows can be keys of dicts, and are laid over one another in a moment.
"""

from takenup.blocks import Block
from takenup.errors import BadText
from takenup.standing import Standing, values_of

NUMBERS = 3
NODE = 4
WAY = 3


def node_row(words):
    """The row of the node words."""
    return words.row[:NODE]


def number_row(words):
    """The row of the number words."""
    return words.row[:NUMBERS]


def plain_row(words):
    """The row of the plain words."""
    return words.row[NUMBERS:]


def laid(row, said):
    """The row behind something that says these values; None says nothing."""
    return tuple([old if new is None else new for old, new in zip(row, said)])


def said_by(step):
    """The row of all names of what a step says, later blocks over earlier ones."""
    if isinstance(step, Block):
        return step.words.row
    row = Standing().row
    for block in step.blocks:
        row = laid(row, block.words.row)
    return row


def words_of(row, names):
    """The Standing with these values under these names."""
    table = dict(zip(names, row))
    return Standing(**table)


def node_texts(machine):
    """The row of each text of node words whose zero the machine has."""
    left = Standing()
    ways = [Standing(way=way) for way in values_of("way", machine)]
    held = [words | way for words in left.fillings(machine) for way in ways]
    return {str(words): node_row(words) for words in held}


def number_texts(machine):
    """The row of each text of number words whose zero the machine has."""
    left = Standing()
    return {str(words): number_row(words) for words in left.fillings(machine)}


def read_words(text):
    """The Standing with any value as its text, None if there is none."""
    try:
        return Standing.read(text)
    except BadText:
        return None
