"""Looking whether papers show that a target serves, that it does not, or why a place is refused."""

from takenup.graph import node_graph, plain_rows_at
from takenup.look_alike import opened_rows, told_ties
from takenup.look_pairs import pairs_hold, plains_hold
from takenup.look_partings import parting_holds, position_wanted, row_along
from takenup.look_tables import shows_table
from takenup.needs import is_place, need_both, need_place
from takenup.openings import held_pair
from takenup.pairs import Parting
from takenup.places import is_run
from takenup.serving import Served, Unserved
from takenup.standing import Standing, is_value
from takenup.takeups import Refused, RefusedRow, RefusedWord, TakenUp
from takenup.targets import Target, need_fitting_target
from takenup.uses import first_seen
from takenup.word_rows import WAY, number_row, plain_row

PLAIN_SPOTS = ("mark", "way", "tool", "pace", "spindle")


def shows_served(program, machine, place, value):
    """Whether any value is a Served of this place that shows that its target serves."""
    need_both(program, machine)
    need_place(program, place)
    if not isinstance(value, Served) or not is_place(program, value.place) or value.place != place:
        return False
    target = value.target
    if not isinstance(target, Target) or not target.fits(machine) or not shows_table(program, machine, value.table):
        return False
    plain = plain_row(target.words)
    begins = [(place, row, plain) for row in plain_rows_at(program, place)]
    return plains_hold(program, begins, value.plains, program) and pairs_serve(program, machine, place, value)


def pairs_serve(program, machine, place, value):
    """Whether the pairs of a Served show that each axis goes on alike."""
    target = value.target
    if not isinstance(value.pairs, tuple) or len(value.pairs) != len(machine.axes):
        return False
    graph = node_graph(program)
    points = [at for at, (reached, _) in enumerate(graph.points) if reached == place]
    filled = fillings_of(machine, target)
    for axis, table in zip(machine.axes, value.pairs):
        held = held_pair(machine, target.sum_of(axis))
        ties = told_ties(graph, machine, axis, value.table, points)
        rows = [(at, number_row(words), held) for words in filled for at in points]
        if not pairs_hold(program, machine, axis, opened_rows(graph, ties, rows), table, program):
            return False
    return True


def fillings_of(machine, target):
    """The list of the number words of all fillings of a target."""
    said = target.words.number_words
    return list(said.fillings(machine))


def shows_unserved(program, machine, place, target, value):
    """Whether any value is an Unserved that shows that a target does not serve a place."""
    need_both(program, machine)
    need_place(program, place)
    need_fitting_target(machine, target)
    if not isinstance(value, Unserved) or not is_parting_at(program, place, value.parting):
        return False
    part, words, parting = value.parts
    if not isinstance(part, str) or not isinstance(words, Standing):
        return False
    if part in PLAIN_SPOTS:
        if len(words) > 0 or parting.what != part:
            return False
        return parting_holds(program, machine, None, target.words.row, None, parting, program)
    if part not in machine or words not in fillings_of(machine, target):
        return False
    held = held_pair(machine, target.sum_of(part))
    return parting_holds(program, machine, part, words.row, held, parting, program)


def is_parting_at(program, place, value):
    """Whether any value is a Parting with a run that stands at a place."""
    return isinstance(value, Parting) and is_run(program, value.run) and value.run[-1] == place


def shows_refused(program, machine, place, value):
    """Whether any value is a RefusedWord or a Refused that shows that a place cannot be taken up."""
    need_both(program, machine)
    need_place(program, place)
    if isinstance(value, RefusedWord):
        return word_is_refused(program, place, value)
    if not isinstance(value, Refused) or not isinstance(value.rows, tuple):
        return False
    left = Standing()
    filled = list(left.fillings(machine))
    if len(value.rows) != len(filled):
        return False
    return all([row_is_refused(program, machine, place, words, row) for words, row in zip(filled, value.rows)])


def word_is_refused(program, place, value):
    """Whether a RefusedWord shows that a plain word is wanted with two values."""
    name, one, other = value.parts
    if not isinstance(name, str) or name not in Standing.PLAIN_NAMES:
        return False
    return all([is_wanted(program, place, name, told) for told in (one, other)]) and one[0] != other[0]


def is_wanted(program, place, name, told):
    """Whether any value is a tuple of a value, a run that brings it to a place, and a run on that shows it."""
    if not isinstance(told, tuple) or len(told) != 3:
        return False
    value, run, run_on = told
    if not is_value(name, value) or not is_run(program, run) or run[-1] != place:
        return False
    row = row_along(program, run, Standing.first().row)
    return row[Standing.NAMES.index(name)] == value and is_shown_by(program, place, row[WAY], name, run_on)


def is_shown_by(program, place, way, name, run_on):
    """Whether any value is a run on whose last step is the first with a mark that shows a plain word, unsaid so far."""
    if not is_run(program, run_on, place) or len(run_on) < 2:
        return False
    seen = []
    for at in run_on[:-1]:
        told, way = first_seen(program[at], way, name)
        seen.append(told)
    return seen[-1] == "shown" and all([told == "nothing" for told in seen[:-1]])


def row_is_refused(program, machine, place, words, value):
    """Whether any value is a RefusedRow that shows that an axis has no option for number words."""
    if not isinstance(value, RefusedRow) or not isinstance(value.words, Standing) or value.words != words:
        return False
    axis, partings = value.axis, value.partings
    if axis not in machine or not isinstance(partings, tuple) or len(partings) == 0:
        return False
    if not all([is_parting_at(program, place, parting) for parting in partings]):
        return False
    if not parting_holds(program, machine, axis, words.row, None, partings[0], program):
        return False
    begun, told = position_wanted(program, machine, axis, words.row, partings[0])
    return told is None or no_sum_helps(program, machine, words, value, begun, told)


def no_sum_helps(program, machine, words, value, begun, told):
    """Whether each sum that meets the first Parting of a RefusedRow parts by one of its Partings.

    Told is what is wanted of the position, begun the effect along the run by which it is.
    """
    source, number = told
    for at, (kept_source, added) in enumerate(begun):
        if at > 0 and kept_source == source:
            held = (at, number - added)
            parted = [
                parting_holds(program, machine, value.axis, words.row, held, parting, program)
                for parting in value.partings
            ]
            if not any(parted):
                return False
    return True


def shows_taken(program, machine, place, value):
    """Whether any value is a TakenUp of a target and of a Served of just this target that shows that it serves."""
    need_both(program, machine)
    need_place(program, place)
    if not isinstance(value, TakenUp) or not isinstance(value.target, Target) or not isinstance(value.served, Served):
        return False
    return value.served.target == value.target and shows_served(program, machine, place, value.served)
