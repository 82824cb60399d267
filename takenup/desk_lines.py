"""The lines that a desk is told."""

from takenup.cursor import Cursor
from takenup.errors import BadText
from takenup.kind_words import READERS, take_text
from takenup.machines import Machine
from takenup.programs import Program
from takenup.reader import read_value
from takenup.standing import CHOSEN, GREATEST, Standing
from takenup.sums import Sum

OTHER_DEEDS = ("here", "lay", "home", "touch")


class Line:
    """The name of a line, and what it tells behind it."""

    DEEDS = (
        "machine", "program", "begin", "step", "leap", "break", "take", "part", "resume", "over", "undo", "again",
    )
    ASKS = (
        "where", "run", "stand", "tape", "after", "nodes", "difference", "tied", "greatest", "least", "uses", "serves",
        "target", "preamble", "places", "paper", "shown", "alike", "lean", "back", "cuts",
    )

    def __init__(self, name, *things):
        self.name = name
        self.told_things = copied_things(things)
        self.is_deed = isinstance(name, str) and name in Line.DEEDS

    @property
    def things(self):
        """What is told behind the name, copied: a dict in it could be changed."""
        return copied_things(self.told_things)

    def __eq__(self, other):
        return isinstance(other, Line) and self.name == other.name and self.told_things == other.told_things


def copied_things(value):
    """Any value with lists and tuples in it as new tuples, and dicts as new dicts."""
    if isinstance(value, (list, tuple)):
        return tuple([copied_things(item) for item in value])
    if isinstance(value, dict):
        return {key: copied_things(value[key]) for key in value}
    return value


def take_place(cursor):
    """A place, or a number of blocks."""
    return [cursor.take_within(0, Program.STEPS)]


def take_machine_numbers(cursor):
    """How many axes and how many zeros a machine has."""
    return [cursor.take_within(1, 3), cursor.take_within(1, 4)]


def take_axis(cursor):
    """The letter of an axis."""
    return [cursor.take_one_of(Machine.AXES)]


def take_name(cursor):
    """The name of a register."""
    return [cursor.take_one_of(Sum.NAMES)]


def take_node_words(cursor):
    """All node words."""
    return [take_each_word(cursor, Standing.NODE_NAMES)]


def take_full_words(cursor):
    """All words, if any are there."""
    return [] if cursor.ahead() is None else [take_each_word(cursor, Standing.NAMES)]


def take_each_word(cursor, names):
    """The Standing of words with these names, which lie ahead, none of them left."""
    table = {}
    for name in names:
        if name in GREATEST:
            cursor.need_word(name)
            table[name] = cursor.take_within(0, GREATEST[name])
        else:
            table[name] = cursor.take_one_of(CHOSEN[name])
    return Standing(**table)


def take_stand(cursor):
    """A stand, up to the words that may follow."""
    return take_kind_up_to(cursor, "stand", CHOSEN["reading"])


def take_break(cursor):
    """A block without a deed other than a move."""
    return take_kind_up_to(cursor, "block", OTHER_DEEDS)


def take_program(cursor):
    """A program."""
    return take_kind_up_to(cursor, "program", ())


def take_target(cursor):
    """A target."""
    return take_kind_up_to(cursor, "target", ())


def take_preamble(cursor):
    """A preamble."""
    return take_kind_up_to(cursor, "preamble", ())


def take_kind_up_to(cursor, kind, words):
    """The value of a kind whose text lies ahead, up to the first of some words or to the end."""
    many = 0
    for word in cursor.words[cursor.at:]:
        if word in words:
            break
        many += 1
    read = READERS[kind]
    return [take_text(cursor, read, many)]


def take_any_value(cursor):
    """A value of any kind that has a text."""
    return [take_text(cursor, read_value, len(cursor.words) - cursor.at)]


TAKERS = {
    "place": take_place,
    "machine": take_machine_numbers,
    "axis": take_axis,
    "name": take_name,
    "node": take_node_words,
    "full": take_full_words,
    "stand": take_stand,
    "break": take_break,
    "program": take_program,
    "target": take_target,
    "preamble": take_preamble,
    "value": take_any_value,
}
# What stands behind the names of lines; nothing behind those that are not here.
PARTS = {
    "machine": ("machine",),
    "program": ("program",),
    "begin": ("stand", "full"),
    "step": ("place",),
    "leap": ("place",),
    "break": ("break",),
    "take": ("preamble",),
    "part": ("place", "preamble"),
    "over": ("program",),
    "after": ("place",),
    "nodes": ("place",),
    "difference": ("place", "axis", "name", "name", "node"),
    "tied": ("place", "axis", "node"),
    "greatest": ("place", "axis", "name", "name"),
    "least": ("place", "axis", "name", "name"),
    "uses": ("place",),
    "serves": ("place", "target"),
    "target": ("place",),
    "preamble": ("place",),
    "paper": ("place",),
    "shown": ("place", "value"),
    "alike": ("program",),
    "back": ("place", "place"),
    "cuts": ("place", "place"),
}


def read_line(text, line=0):
    """The Line that a text tells."""
    try:
        return read_first_line(text)
    except BadText as wrong:
        raise BadText(line, wrong.word)


def read_first_line(text):
    """The Line that a text tells, the first one of several."""
    cursor = Cursor(text)
    name = cursor.take_one_of(Line.DEEDS + Line.ASKS)
    things = []
    for word in PARTS.get(name, ()):
        take = TAKERS[word]
        things.extend(take(cursor))
    cursor.need_end()
    return Line(name, *things)
