"""Looking whether tables show that machines agree, or a Parting that they part. Nothing is searched."""

from takenup.alike import SAME_POSITION, Alike, Unalike, need_alike_place, need_seconds
from takenup.errors import BadPaper, BadSum, BadWords
from takenup.graph import node_graph
from takenup.ground import NodeField, node_at
from takenup.look_pairs import pairs_hold, plains_hold
from takenup.look_partings import parting_holds, row_along
from takenup.needs import need_both, need_program
from takenup.openings import held_pair, is_held, is_plain_words, need_openings, need_other_words
from takenup.openings import need_plain_openings, need_second
from takenup.pairfield import opened_ties
from takenup.standing import Standing
from takenup.stepping import need_axis
from takenup.tables import Table
from takenup.ties import read_ties
from takenup.word_rows import number_row, plain_row, words_of


def shows_pairs(program, machine, axis, openings, value, second=None, table=None):
    """Whether any value is a PairTable that shows that an axis goes on alike from openings."""
    need_both(program, machine)
    need_axis(machine, axis)
    graph = node_graph(program)
    rows = need_openings(graph, machine, openings)
    second = need_second(program, machine, second)
    if table is None:
        ties = NodeField(graph, machine, axis).all_ties()
    else:
        ties = told_ties(graph, machine, axis, table, [at for at, _, _ in rows])
    return pairs_hold(program, machine, axis, opened_rows(graph, ties, rows), value, second)


def told_ties(graph, machine, axis, table, points):
    """The ties that any value tells of these nodes, if it is a Table that does."""
    if not isinstance(table, Table):
        raise BadPaper("table")
    ties = {}
    for at in points:
        place, row = graph.points[at]
        text = str(words_of(row, Standing.NODE_NAMES))
        ties[at] = read_ties(machine.registers, table.ties.get((place, text, axis)))
        if ties[at] is None:
            raise BadPaper("table")
    return ties


def opened_rows(graph, ties, rows):
    """For each opening the place, the row of words of its pair node, and what holds there."""
    opened = []
    for at, other, held in rows:
        place, row = graph.points[at]
        opened.append((place, row + other, opened_ties(ties[at], held)))
    return opened


def shows_plains(program, openings, value, second=None):
    """Whether any value is a PlainTable that shows that the machines agree at all plain spots from openings."""
    need_program(program)
    begins = need_plain_openings(program, openings)
    second = need_second(program, None, second)
    return plains_hold(program, begins, value, second)


def shows_parting(program, machine, axis, other, held, value, second=None):
    """Whether any value is a Parting that shows a spot at which the machines part."""
    need_both(program, machine)
    if axis is None:
        if not is_plain_words(other):
            raise BadWords("other")
    else:
        need_axis(machine, axis)
        need_other_words(machine, other)
        if not is_held(machine, held):
            raise BadSum("held")
    second = need_second(program, machine, second)
    pair = None if axis is None else held_pair(machine, held)
    return parting_holds(program, machine, axis, other.row, pair, value, second)


def shows_alike(program, machine, second, value, place=None, words=None):
    """Whether any value is an Alike that shows that two programs are alike, from a place on if there is one."""
    need_both(program, machine)
    need_seconds(program, machine, second)
    if place is not None:
        need_alike_place(program, machine, place, words)
    if not isinstance(value, Alike) or not isinstance(value.pairs, tuple) or len(value.pairs) != len(machine.axes):
        return False
    places = program.starts if place is None else (place,)
    words = Standing.first() if place is None else words
    plain = plain_row(words)
    if not plains_hold(program, [(at, plain, plain) for at in places], value.plains, second):
        return False
    graph = node_graph(program)
    rows = [(node_at(graph, at, words.node_words), number_row(words), SAME_POSITION) for at in places]
    for axis, table in zip(machine.axes, value.pairs):
        opened = opened_rows(graph, NodeField(graph, machine, axis).all_ties(), rows)
        if not pairs_hold(program, machine, axis, opened, table, second):
            return False
    return True


def shows_unalike(program, machine, second, value, place=None, words=None):
    """Whether any value is an Unalike that shows that two programs part, from a place on if there is one."""
    need_both(program, machine)
    need_seconds(program, machine, second)
    if place is not None:
        need_alike_place(program, machine, place, words)
    if not isinstance(value, Unalike) or not (value.axis is None or value.axis in machine):
        return False
    words = Standing.first() if place is None else words
    if not parting_holds(program, machine, value.axis, words.row, SAME_POSITION, value.parting, second):
        return False
    run = value.parting.run
    if place is None:
        return len(run) == 1
    row = row_along(program, run, Standing.first().row)
    behind = words_of(row, Standing.NAMES)
    if value.axis is None:
        return run[-1] == place and behind.plain_words == words.plain_words
    return run[-1] == place and behind.node_words == words.node_words
