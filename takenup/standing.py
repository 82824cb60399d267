"""Standing words: what holds until a block says otherwise."""

from takenup.checks import is_within
from takenup.cursor import Cursor
from takenup.errors import BadWords
from takenup.machines import need_machine

CHOSEN = {
    "reading": ("far", "on"),
    "unit": ("fine", "coarse"),
    "way": ("rapid", "cut"),
    "spindle": ("still", "turning"),
}
GREATEST = {"zero": 3, "tool": 9, "pace": 99}
LENGTHS = {"fine": 5, "coarse": 127}


class Standing:
    """Values of some standing words; the others are left."""

    NAMES = ("reading", "unit", "zero", "way", "tool", "pace", "spindle")
    NUMBER_NAMES = ("reading", "unit", "zero")
    NODE_NAMES = ("reading", "unit", "zero", "way")
    PLAIN_NAMES = ("way", "tool", "pace", "spindle")

    def __init__(self, *, reading=None, unit=None, zero=None, way=None, tool=None, pace=None, spindle=None):
        told = (reading, unit, zero, way, tool, pace, spindle)
        pairs = [(name, value) for name, value in zip(Standing.NAMES, told) if value is not None]
        for name, value in pairs:
            if not is_value(name, value):
                raise BadWords(name)
        self.reading = reading
        self.unit = unit
        self.zero = zero
        self.way = way
        self.tool = tool
        self.pace = pace
        self.spindle = spindle
        self.row = told
        self.pairs = tuple(pairs)
        self.said = tuple([name for name, _ in pairs])
        self.is_full = len(pairs) == len(Standing.NAMES)
        self.length = None if unit is None else LENGTHS[unit]

    def __getitem__(self, at):
        need_name(at)
        return dict(self.pairs).get(at)

    def __iter__(self):
        return iter(self.pairs)

    def __len__(self):
        return len(self.pairs)

    def __eq__(self, other):
        return isinstance(other, Standing) and self.pairs == other.pairs

    @property
    def number_words(self):
        """The number words as they are said here, nothing else."""
        return standing_of([(name, value) for name, value in self.pairs if name in Standing.NUMBER_NAMES])

    @property
    def node_words(self):
        """The node words as they are said here, nothing else."""
        return standing_of([(name, value) for name, value in self.pairs if name in Standing.NODE_NAMES])

    @property
    def plain_words(self):
        """The plain words as they are said here, nothing else."""
        return standing_of([(name, value) for name, value in self.pairs if name in Standing.PLAIN_NAMES])

    def __or__(self, other):
        need_other(other)
        return standing_of(self.pairs + other.pairs)

    def __and__(self, other):
        need_other(other)
        return standing_of([pair for pair in self.pairs if pair in other.pairs])

    def __sub__(self, other):
        need_other(other)
        return standing_of([(name, value) for name, value in self.pairs if name not in other.said])

    def is_part_of(self, other):
        """Whether the other one says all that this one says, alike."""
        need_other(other)
        return all([pair in other.pairs for pair in self.pairs])

    def with_word(self, name, value):
        """The same but for one word, which None leaves."""
        need_name(name)
        return standing_of(self.pairs + ((name, value),))

    def fits(self, machine):
        """Whether the zero is left, or the machine has it."""
        need_machine(machine)
        return self.zero is None or self.zero < machine.zeros

    def fillings(self, machine):
        """Yields the words with each left number word said, in all ways."""
        if not self.fits(machine):
            raise BadWords("zero")
        for reading in filled(self.reading, "reading", machine):
            for unit in filled(self.unit, "unit", machine):
                for zero in filled(self.zero, "zero", machine):
                    yield self | Standing(reading=reading, unit=unit, zero=zero)

    @staticmethod
    def first():
        """The words with which every program begins."""
        return Standing(reading="far", unit="fine", zero=0, way="rapid", tool=0, pace=0, spindle="still")

    def __str__(self):
        return str(" ".join(word_texts(self)) or "-")

    @staticmethod
    def read(text):
        """The words with this text."""
        cursor = Cursor(text)
        words = take_words(cursor)
        if len(words) == 0:
            cursor.need_word("-")
        cursor.need_end()
        return words


def standing_of(pairs):
    """The words with these pairs of a name and a value, a later pair of a name in the place of an earlier one."""
    table = dict(pairs)
    return Standing(**table)


def is_value(name, value):
    """Whether any value is one of the values of a word, whatever the machine."""
    if name in GREATEST:
        return is_within(value, 0, GREATEST[name])
    return isinstance(value, str) and value in CHOSEN[name]


def need_name(name):
    """Refuses any value that is no name of a word."""
    if not isinstance(name, str) or name not in Standing.NAMES:
        raise BadWords("name")


def need_other(other):
    """Refuses any value that is no Standing."""
    if not isinstance(other, Standing):
        raise BadWords("other")


def values_of(name, machine):
    """The tuple of all values of a word in a machine, in order."""
    need_name(name)
    need_machine(machine)
    if name == "zero":
        return tuple(range(machine.zeros))
    if name in GREATEST:
        return tuple(range(GREATEST[name] + 1))
    return CHOSEN[name]


def filled(value, name, machine):
    """The values with which a word is filled: its own alone if it is said, otherwise all."""
    return values_of(name, machine) if value is None else (value,)


def word_texts(words):
    """The texts of the said words, in order."""
    return tuple([word_text(name, value) for name, value in words.pairs])


def word_text(name, value):
    """The text of one said word."""
    return f"{name} {value}" if name in GREATEST else value


def take_words(cursor):
    """The words whose texts lie ahead, as many as stand there in order."""
    table = {}
    for name in Standing.NAMES:
        word = cursor.ahead()
        if name in GREATEST:
            if cursor.take_if(name):
                table[name] = cursor.take_within(0, GREATEST[name])
        elif word in CHOSEN[name]:
            table[name] = word
            cursor.go_on()
    return Standing(**table)
