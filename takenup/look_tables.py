"""Looking whether a table, or two runs, show what they tell. Nothing is searched."""

from takenup.effects import StepEffects
from takenup.graph import said_rows
from takenup.ground import asked_field, difference_along, point_of_run
from takenup.needs import is_place, need_both
from takenup.standing import Standing
from takenup.tables import Table
from takenup.ties import apart_ties, is_within_ties, read_ties, ties_behind, written_ties
from takenup.unlike import Unlike
from takenup.word_rows import laid, node_row, node_texts


def shows_table(program, machine, value):
    """Whether any value is a Table that shows, edge by edge, that all numbers it tells are right."""
    need_both(program, machine)
    told = told_nodes(program, machine, value.rows) if isinstance(value, Table) else None
    if told is None or not begins_apart(program, machine, told):
        return False
    said = said_rows(program, Standing.NODE_NAMES)
    steps = {axis: StepEffects(program, machine, axis) for axis in machine.axes}
    return all([holds_behind(program, said, steps, told, key) for key in told])


def told_nodes(program, machine, rows):
    """The ties of each axis by place and row of words; None if the rows are not in just their form."""
    if not isinstance(rows, tuple):
        return None
    texts = node_texts(machine)
    told = {}
    for row in rows:
        if not is_row_of_table(program, machine, texts, row):
            return None
        place, text, axis, ties = row
        held = told.setdefault((place, texts[text]), {})
        if axis in held:
            return None
        held[axis] = read_ties(machine.registers, ties)
    is_whole = all([len(held) == len(machine.axes) for held in told.values()])
    return told if is_whole else None


def is_row_of_table(program, machine, texts, row):
    """Whether any value is a row of a table of a program and a machine."""
    if not isinstance(row, tuple) or len(row) != 4:
        return False
    place, text, axis, ties = row
    if not is_place(program, place) or not isinstance(text, str) or text not in texts or axis not in machine:
        return False
    held = read_ties(machine.registers, ties)
    return held is not None and written_ties(machine.registers, held) == ties


def begins_apart(program, machine, told):
    """Whether each start has a node with the first node words, at which no two registers are tied."""
    apart = apart_ties(len(machine.registers))
    for start in program.starts:
        held = told.get((start, node_row(Standing.first())))
        if held is None or not all([ties == apart for ties in held.values()]):
            return False
    return True


def holds_behind(program, said, steps, told, key):
    """Whether the nodes behind the step of a node are told, and what they tell follows from what it tells."""
    place, row = key
    if place == program.end:
        return True
    nexts = [told.get((after, laid(row, said[place]))) for after in program.after(place)]
    if not all([held is not None for held in nexts]):
        return False
    for axis in steps:
        behind = ties_behind(told[key][axis], steps[axis].effect_at(place, row))
        if not all([is_within_ties(held[axis], behind) for held in nexts]):
            return False
    return True


def shows_unlike(program, machine, place, words, axis, one, other, value):
    """Whether any value is an Unlike of two runs that show that the difference at the node is no number."""
    field, at = asked_field(program, machine, place, words, axis, one, other)
    if not isinstance(value, Unlike):
        return False
    runs = (value.one, value.other)
    if not all([point_of_run(field, run) == at for run in runs]):
        return False
    names = machine.registers
    found = [difference_along(field, run, names.index(one), names.index(other)) for run in runs]
    return None in found or found[0] != found[1]
