"""Whether two programs of one shape do the same, and what shows it."""

from takenup.errors import BadWords, NoNode
from takenup.graph import node_graph
from takenup.ground import node_at
from takenup.needs import need_both, need_fit, need_place
from takenup.openings import is_plain_node, need_second_program
from takenup.pairs import compared_on, plain_compared
from takenup.papers import Denial, Paper
from takenup.plain_sides import PlainRuns
from takenup.runs import is_full_for
from takenup.sides import Sides
from takenup.standing import Standing
from takenup.word_rows import number_row, plain_row

SAME_POSITION = (0, 0)


class Alike(Paper):
    """The tables that show that two programs are alike."""

    def __init__(self, pairs, plains):
        Paper.__init__(self, "alike", pairs, plains)
        self.pairs, self.plains = self.parts


class Unalike(Denial):
    """Where two programs part: on an axis, or at a plain spot if this is None."""

    def __init__(self, parting, axis):
        Denial.__init__(self, "unalike", parting, axis)
        self.parting, self.axis = self.parts


def alike(program, machine, second):
    """Whether two programs are alike: an Alike or an Unalike."""
    need_both(program, machine)
    need_seconds(program, machine, second)
    return alike_from(program, machine, second, program.starts, Standing.first())


def alike_at(program, machine, second, place, words):
    """Likewise from a place on, where both have the same words and registers."""
    need_both(program, machine)
    need_seconds(program, machine, second)
    need_alike_place(program, machine, place, words)
    return alike_from(program, machine, second, (place,), words)


def need_seconds(program, machine, second):
    """Refuses any value that is no program of the same shape that fits the machine."""
    need_second_program(program, second)
    need_fit(second.blocks, machine)


def need_alike_place(program, machine, place, words):
    """Refuses any values that are no place, no full words, and none that come about there."""
    need_place(program, place)
    if not is_full_for(machine, words):
        raise BadWords("words")
    at = node_at(node_graph(program), place, words.node_words)
    if at is None or not is_plain_node(PlainRuns(program), place, words.plain_words):
        raise NoNode(place, words)


def alike_from(program, machine, second, places, words):
    """Whether two programs do the same from some places on, where both have these words and the same registers."""
    plain = plain_row(words)
    plains = plain_compared(program, second, [(place, plain, plain) for place in places])
    if not plains:
        return Unalike(plains, None)
    graph = node_graph(program)
    nodes_there = [node_at(graph, place, words.node_words) for place in places]
    sides = Sides(graph, machine, second, [(at, number_row(words)) for at in nodes_there])
    sides.graph.explore()
    pairs = []
    for axis in machine.axes:
        table = compared_on(sides, axis, [SAME_POSITION for _ in places])
        if not table:
            return Unalike(table, axis)
        pairs.append(table)
    return Alike(pairs, plains)
