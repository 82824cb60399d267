"""Marks: what a marking block tells."""

from takenup.cursor import Cursor
from takenup.errors import NoAxis
from takenup.machines import Machine, is_axis
from takenup.papers import Paper
from takenup.standing import CHOSEN, GREATEST

MOST_AXES = 3


class Mark(Paper):
    """Where the tool came to, and of a cut where it came from and under which words."""

    def __init__(self, way, ends, begins=None, tool=None, pace=None, spindle=None):
        Paper.__init__(self, "mark", way, ends, begins, tool, pace, spindle)
        self.way, self.ends, self.begins, self.tool, self.pace, self.spindle = self.parts

    def moved(self, **numbers):
        """The mark with greater positions on the named axes."""
        for axis in numbers:
            if not is_axis(axis) or Machine.AXES.index(axis) >= len(self.ends):
                raise NoAxis(axis)
        ends = moved_row(self.ends, numbers)
        begins = None if self.begins is None else moved_row(self.begins, numbers)
        return Mark(self.way, ends, begins, self.tool, self.pace, self.spindle)

    def __str__(self):
        return str(mark_text(self))

    @staticmethod
    def read(text):
        """The mark with this text."""
        cursor = Cursor(text)
        mark = take_mark(cursor)
        cursor.need_end()
        return mark


def moved_row(row, numbers):
    """The positions, greater by the number of each named axis."""
    return tuple([number + numbers.get(axis, 0) for axis, number in zip(Machine.AXES, row)])


def row_words(row):
    """The text of positions."""
    return " ".join([str(number) for number in row])


def mark_text(mark):
    """The text of a mark."""
    if mark.begins is None:
        return f"{mark.way} {row_words(mark.ends)}"
    words = f"tool {mark.tool} pace {mark.pace} {mark.spindle}"
    return f"{mark.way} {row_words(mark.begins)} to {row_words(mark.ends)} {words}"


def take_mark(cursor):
    """The mark whose text lies ahead."""
    if cursor.take_one_of(CHOSEN["way"]) == "rapid":
        return Mark("rapid", take_up_to(cursor, None))
    begins = take_up_to(cursor, "to")
    cursor.need_word("to")
    ends = [cursor.take_integer() for _ in begins]
    cursor.need_word("tool")
    tool = cursor.take_within(0, GREATEST["tool"])
    cursor.need_word("pace")
    pace = cursor.take_within(0, GREATEST["pace"])
    return Mark("cut", ends, begins, tool, pace, cursor.take_one_of(CHOSEN["spindle"]))


def take_up_to(cursor, word):
    """One to three integers, which lie ahead of this word, or of the end for None."""
    numbers = [cursor.take_integer()]
    while cursor.ahead() != word and len(numbers) < MOST_AXES:
        numbers.append(cursor.take_integer())
    return numbers
