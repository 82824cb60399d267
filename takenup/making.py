"""Makings: how far a preamble is on its way to a target, and where one more entry leads."""

from takenup.errors import BadPaper, BadWords
from takenup.machines import need_machine
from takenup.papers import Paper
from takenup.standing import CHOSEN, LENGTHS, Standing, word_text
from takenup.targets import need_a_target, need_fitting_target
from takenup.word_rows import number_row, words_of

GRADES = ("away", "base", "fine", "coarse", "there")
OTHER_UNITS = {"fine": "coarse", "coarse": "fine"}
FINE = 5
COARSE = 127
# 127 times 3 leaves 1 when it is divided by 5, and 5 times 51 leaves 1 when it is divided by 127.
COARSE_TURNED = 3
FINE_TURNED = 51


class Making(Paper):
    """The number words said so far, and a grade for each axis of a target."""

    def __init__(self, words, grades):
        Paper.__init__(self, "making", words, grades)
        self.words, self.grades = self.parts

    def __str__(self):
        return f"{self.words} ; {grades_text(self.grades)}"


def grades_text(grades):
    """The text of grades."""
    return " ".join(grades) or "-"


def by_units(number, last):
    """The pair of multiples of both units that give a number, that of the last one as near to 0 as can be."""
    if not isinstance(last, str) or last not in LENGTHS:
        raise BadWords("unit")
    if last == "coarse":
        coarse = (number * COARSE_TURNED + 2) % FINE - 2
        return ((number - COARSE * coarse) // FINE, coarse)
    fine = (number * FINE_TURNED + 63) % COARSE - 63
    return (fine, (number - FINE * fine) // COARSE)


def begun(target):
    """The making with which it begins."""
    need_a_target(target)
    return Making(Standing(), tuple(["away" for _ in target.axes]))


def is_made(target, making):
    """Whether a right making of a target is made."""
    need_a_target(target)
    return is_made_state(number_row(target.words), (number_row(making.words), making.grades))


def plain_entries(target):
    """How many entries a preamble needs beside those of the graph."""
    need_a_target(target)
    many = len(target.words.plain_words)
    return many + 1 if len(target.axes) > 0 and target.words.way != "rapid" else many


def next_makings(machine, target, making):
    """Yields the entry and the making for each other making to which one entry leads."""
    need_machine(machine)
    need_fitting_target(machine, target)
    if not is_right(machine, target, making):
        raise BadPaper("making")
    state = (number_row(making.words), making.grades)
    for after in next_states(machine.zeros, sums_of(target), state):
        yield (entry_between(target.axes, state, after), making_of(after))


def is_right(machine, target, making):
    """Whether any value is a right making of a target on a machine."""
    if not isinstance(making, Making) or not isinstance(making.words, Standing) or not isinstance(making.grades, tuple):
        return False
    words, grades = making.parts
    if words != words.number_words or not words.fits(machine) or len(grades) != len(target.axes):
        return False
    return all([isinstance(grade, str) and grade in GRADES for grade in grades])


def sums_of(target):
    """The tuple of the sums of a target, axes in order."""
    return tuple([told for _, told in target.pairs])


def is_made_state(needed, state):
    """Whether a state says the needed number words and has each axis there.

    A state is a making told by the row of its number words and by its grades.
    """
    row, grades = state
    if not all([grade == "there" for grade in grades]):
        return False
    return all([need is None or need == value for need, value in zip(needed, row)])


def making_of(state):
    """The making that a state tells."""
    row, grades = state
    return Making(words_of(row, Standing.NUMBER_NAMES), grades)


def next_states(zeros, sums, state):
    """The list of the states to which one entry leads, first by words, then by axes with these sums."""
    row, grades = state
    found = []
    for at, values in enumerate((CHOSEN["reading"], CHOSEN["unit"], tuple(range(zeros)))):
        found.extend([(with_item(row, at, value), grades) for value in values if value != row[at]])
    for at, told in enumerate(sums):
        found.extend([(row, with_item(grades, at, grade)) for grade in next_grades(told, row, grades[at])])
    return found


def next_grades(told, row, grade):
    """The list of the other grades to which one entry leads an axis with a sum, under a row of number words."""
    if grade == "there":
        return []
    reading, unit, zero = row
    is_from_zero = told.source.startswith("z")
    can_begin = not is_from_zero or reading == "far" and told.source == f"z{zero}"
    found = []
    if can_begin:
        found.append("there" if told.number == 0 else "base")
        if is_from_zero and unit is not None and told.number != 0:
            found.append(grade_behind(told.number, unit))
    if reading == "on" and grade == "base" and unit is not None:
        found.append(grade_behind(told.number, unit))
    if reading == "on" and grade == unit:
        found.append("there")
    return [other for at, other in enumerate(found) if other != grade and other not in found[:at]]


def grade_behind(number, unit):
    """The grade behind a move from the register of a sum with this number."""
    return "there" if number % LENGTHS[unit] == 0 else OTHER_UNITS[unit]


def with_item(row, at, value):
    """The row with another value at an index."""
    return row[:at] + (value,) + row[at + 1:]


def entry_between(axes, one, other):
    """The entry that leads from a state to another one: the text of a word, or an axis."""
    row, grades = other
    at = changed_at(one[0], row)
    if at is not None:
        return word_text(Standing.NUMBER_NAMES[at], row[at])
    return axes[changed_at(one[1], grades)]


def changed_at(one, other):
    """The index of the first item that is not the same in two rows, None if there is none."""
    for at, value in enumerate(one):
        if value != other[at]:
            return at
    return None
