"""Looking whether papers show how many cuts there are, what holds since a visit, and whether there is a way back."""

from takenup.back import Back, NoWay, Since
from takenup.checks import is_integer
from takenup.cuts import Cuts, Endless
from takenup.effects import StepEffects
from takenup.graph import said_rows
from takenup.look_tables import shows_table
from takenup.look_takeups import shows_refused, shows_taken
from takenup.needs import is_place, need_both, need_place, need_program
from takenup.places import is_ring, is_run, last_visit, need_other_place, passes
from takenup.standing import Standing
from takenup.stretches import WAYS, cuts_from, cuts_in, leading_places
from takenup.word_rows import laid, node_row, node_texts, said_by


def shows_cuts(program, place, other, value):
    """Whether any value is an Endless or a Cuts that shows how many cuts there are since another place."""
    need_program(program)
    need_place(program, place)
    need_other_place(program, place, other)
    if isinstance(value, Endless):
        return shows_endless(program, place, other, value)
    if not isinstance(value, Cuts) or not is_integer(value.number):
        return False
    run = value.run
    if not is_run(program, run) or run[-1] != place or last_visit(run, other) is None:
        return False
    if cuts_from(program, run, last_visit(run, other)) != value.number:
        return False
    heights = told_heights_of_ways(program, value.rows)
    return heights is not None and heights_hold(program, place, other, heights, value.number)


def shows_endless(program, place, other, value):
    """Whether an Endless shows a ring with cuts between the last visit at another place and a place."""
    run, ring, on = value.run, value.ring, value.on
    if not is_run(program, run) or last_visit(run, other) is None:
        return False
    if not is_ring(program, ring) or ring[0] != run[-1] or not is_run(program, on, ring[0]) or on[-1] != place:
        return False
    if other in ring or other in on:
        return False
    way = way_behind(program, run, Standing.first().way)
    return cuts_on_ring(program, ring, way) > 0 and way_behind(program, ring, way) == way


def way_behind(program, run, way):
    """The way behind the steps of a run on, ahead of which this way holds."""
    for place in run[:-1]:
        _, way = cuts_in(program[place], way)
    return way


def cuts_on_ring(program, ring, way):
    """How many cuts the steps of a ring have, ahead of which this way holds."""
    total = 0
    for place in ring[:-1]:
        many, way = cuts_in(program[place], way)
        total = total + many
    return total


def told_heights_of_ways(program, rows):
    """The heights by place and way; None if any value is no tuple of rows of these, or tells of one twice."""
    if not isinstance(rows, tuple):
        return None
    heights = {}
    for row in rows:
        if not isinstance(row, tuple) or len(row) != 3:
            return None
        place, way, height = row
        if not is_place(program, place) or not isinstance(way, str) or way not in WAYS or (place, way) in heights:
            return None
        if height is not None and not is_integer(height):
            return None
        heights[(place, way)] = height
    return heights


def heights_hold(program, place, other, heights, number):
    """Whether there are heights wherever runs lead, and they are as great as the cuts make them."""
    if not all([(start, Standing.first().way) in heights for start in program.starts]):
        return False
    leading = leading_places(program, place, other)
    for at, way in heights:
        height = heights[(at, way)]
        if at == other and height != 0 or at == place and height is not None and height > number:
            return False
        if at < program.end and not heights_follow(program, other, leading, heights, at, way):
            return False
    return True


def heights_follow(program, other, leading, heights, place, way):
    """Whether the heights at the next places are as great as the height at a place and the cuts of its step."""
    many, behind = cuts_in(program[place], way)
    afters = program.after(place)
    if not all([(after, behind) in heights for after in afters]):
        return False
    height = heights[(place, way)]
    if height is None or place not in leading:
        return True
    told = [heights[(after, behind)] for after in afters if after in leading and after != other]
    return all([after is not None and after >= height + many for after in told])


def shows_since(program, machine, value):
    """Whether any value is a Since that shows, edge by edge, that all numbers it tells are right."""
    need_both(program, machine)
    if not isinstance(value, Since) or not is_place(program, value.other):
        return False
    if not shows_table(program, machine, value.table):
        return False
    told = told_entries(program, machine, value.rows)
    if told is None or not begins_by_table(machine, value, told):
        return False
    said = said_rows(program, Standing.NODE_NAMES)
    steps = {axis: StepEffects(program, machine, axis) for axis in machine.axes}
    return all([entries_follow(program, value.other, said, steps, told, key) for key in told])


def told_entries(program, machine, rows):
    """The entries of each axis by place and row of words; None if the rows are not in their form."""
    if not isinstance(rows, tuple):
        return None
    texts = node_texts(machine)
    told = {}
    for row in rows:
        if not isinstance(row, tuple) or len(row) != 4:
            return None
        place, text, axis, entries = row
        if not is_place(program, place) or not isinstance(text, str) or text not in texts or axis not in machine:
            return None
        held = told.setdefault((place, texts[text]), {})
        if axis in held or not is_entry_table(machine, entries):
            return None
        held[axis] = entries
    is_whole = all([len(held) == len(machine.axes) for held in told.values()])
    return told if is_whole else None


def is_entry_table(machine, value):
    """Whether any value has for each register a tuple with an integer or None for each zero."""
    if not isinstance(value, tuple) or len(value) != len(machine.registers):
        return False
    return all([is_entry_row(machine, row) for row in value])


def is_entry_row(machine, value):
    """Whether any value is a tuple with an integer or None for each zero."""
    if not isinstance(value, tuple) or len(value) != machine.zeros:
        return False
    return all([entry is None or is_integer(entry) for entry in value])


def begins_by_table(machine, value, told):
    """Whether the nodes of the table at the visited place are told, with no other numbers than the table's."""
    for place, words in value.table:
        if place == value.other:
            held = told.get((place, node_row(words)))
            if held is None:
                return False
            for axis in machine.axes:
                if not entries_by_table(machine, value.table, place, words, axis, held[axis]):
                    return False
    return True


def entries_by_table(machine, table, place, words, axis, entries):
    """Whether each entry of an axis at a node is None or the difference that a table tells."""
    for one, row in zip(machine.registers, entries):
        for at, entry in enumerate(row):
            if entry is not None and entry != table(place, words, axis, one, f"z{at}"):
                return False
    return True


def entries_follow(program, other, said, steps, told, key):
    """Whether the nodes behind the step of a node are told, with entries that follow from its own."""
    place, row = key
    if place == program.end:
        return True
    behind = laid(row, said[place])
    for after in program.after(place):
        if after != other:
            held = told.get((after, behind))
            if held is None:
                return False
            for axis in steps:
                if not entries_behind(told[key][axis], steps[axis].effect_at(place, row), held[axis]):
                    return False
    return True


def entries_behind(ahead, effect, behind):
    """Whether each entry behind an effect is None or follows from the one ahead that it comes from."""
    for (source, added), row in zip(effect, behind):
        for begun, entry in zip(ahead[source], row):
            if entry is not None and (begun is None or begun + added != entry):
                return False
    return True


def shows_back(program, machine, place, other, value):
    """Whether any value is a Back that shows a way back from a place to another one."""
    need_both(program, machine)
    need_place(program, place)
    need_other_place(program, place, other)
    if not isinstance(value, Back) or not isinstance(value.then, Since) or not passes(program, place, other):
        return False
    then = value.then
    if not shows_since(program, machine, then) or then.other != other or not zeros_stay(then, place):
        return False
    return shows_cuts(program, place, other, value.cuts) and shows_taken(program, machine, other, value.taken)


def zeros_stay(then, place):
    """Whether each zero less itself is 0 at each node of a place."""
    for at, _, _, entries in then.rows:
        if at == place and not all([row[zero] == 0 for zero, row in enumerate(entries[1:-2])]):
            return False
    return True


def shows_no_way(program, machine, place, other, value):
    """Whether any value is a NoWay that shows that there is no way back from a place to another one."""
    need_both(program, machine)
    need_place(program, place)
    need_other_place(program, place, other)
    if not isinstance(value, NoWay) or not isinstance(value.reason, str):
        return False
    if value.reason == "unserved":
        return value.run is None and shows_refused(program, machine, other, value.paper)
    if not is_run(program, value.run) or value.run[-1] != place:
        return False
    visit = last_visit(value.run, other)
    if value.reason == "missed":
        return visit is None and value.paper is None
    return value.reason == "zero" and visit is not None and zero_changes(program, machine, value, visit)


def zero_changes(program, machine, value, visit):
    """Whether any paper of a NoWay is an axis and a zero that is not along its run as it was at the visit."""
    if not isinstance(value.paper, tuple) or len(value.paper) != 2:
        return False
    axis, name = value.paper
    if axis not in machine or not isinstance(name, str) or name not in machine.registers[1:-2]:
        return False
    said = [said_by(step) for step in program.steps]
    steps = StepEffects(program, machine, axis)
    at = machine.registers.index(name)
    behind, _ = steps.of_run(value.run, Standing.first().row, said)
    visited, _ = steps.of_run(value.run[:visit + 1], Standing.first().row, said)
    return behind[at] != visited[at]
