"""Whether a target serves a place, and which options an axis has."""

from takenup.errors import BadWords
from takenup.graph import node_graph, plain_graph
from takenup.needs import need_both, need_place
from takenup.offers import Offers
from takenup.openings import held_pair
from takenup.pairs import PairTable, Parting, pair_rows, plain_compared
from takenup.papers import Denial, Paper
from takenup.sides import Sides
from takenup.standing import Standing
from takenup.stepping import need_axis
from takenup.tables import table_of
from takenup.targets import need_fitting_target
from takenup.word_rows import number_row, plain_row


class Served(Paper):
    """The tables that show that a target serves a place."""

    def __init__(self, place, target, table, pairs, plains):
        Paper.__init__(self, "served", place, target, table, pairs, plains)
        self.place, self.target, self.table, self.pairs, self.plains = self.parts


class Unserved(Denial):
    """At which plain spot, or on which axis and under which number words, a machine that was taken up parts."""

    def __init__(self, part, words, parting):
        Denial.__init__(self, "unserved", part, words, parting)
        self.part, self.words, self.parting = self.parts


def serves(program, machine, place, target):
    """Whether a target serves a place: a Served or an Unserved."""
    need_both(program, machine)
    need_place(program, place)
    need_fitting_target(machine, target)
    return served_at(program, machine, place, target)


def served_at(program, machine, place, target):
    """Whether a target that fits serves a place."""
    rows = [row for at, row in plain_graph(program).points if at == place]
    plains = plain_compared(program, program, [(place, row, plain_row(target.words)) for row in rows])
    if not plains:
        return Unserved(plains.what, Standing(), plains)
    graph = node_graph(program)
    points = [at for at, (reached, _) in enumerate(graph.points) if reached == place]
    said = target.words.number_words
    filled = list(said.fillings(machine))
    begins = [(at, number_row(filling)) for filling in filled for at in points]
    sides = Sides(graph, machine, program, begins)
    sides.graph.explore()
    openings = {}
    pairs = []
    for axis in machine.axes:
        held = held_pair(machine, target.sum_of(axis))
        openings[axis] = sides.openings_on(axis, [held for _ in begins])
        ties = sides.goes_on_alike(axis, openings[axis])
        if ties is not None:
            pairs.append(PairTable(axis, pair_rows(sides, ties)))
    if len(pairs) < len(machine.axes):
        return unserved_by(sides, filled, openings, len(points))
    return Served(place, target, table_of(graph, machine), pairs, plains)


def unserved_by(sides, filled, openings, many):
    """The Unserved of the first filling at which an axis parts; each filling has so many openings on each axis."""
    askings = {axis: sides.asking_on(axis) for axis in openings}
    for at, filling in enumerate(filled):
        for axis in openings:
            parting = sides.parting_on(axis, askings[axis], openings[axis][at * many:(at + 1) * many])
            if parting is not None:
                return Unserved(axis, filling, Parting(*parting))
    return None


def options(program, machine, place, words, axis):
    """The options of an axis for number words, whether they are used or not."""
    need_both(program, machine)
    need_place(program, place)
    if not isinstance(words, Standing) or words != words.number_words or not words.fits(machine):
        raise BadWords("words")
    need_axis(machine, axis)
    return Offers(program, machine, (place,), (axis,)).options_at(place, words, axis)
