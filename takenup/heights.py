"""The greatest difference of two registers at a place, or why there is none."""

from takenup.arrivals import points_in_order
from takenup.closure import Closure
from takenup.errors import TooMany
from takenup.ground import counted_field
from takenup.papers import Denial, Paper
from takenup.rising import Heights
from takenup.standing import Standing
from takenup.word_rows import words_of

MOST_ROWS = 2000


class Most(Paper):
    """The greatest difference, a run on which it is, and how great differences are at most on the way there."""

    def __init__(self, number, run, rows):
        Paper.__init__(self, "most", number, run, rows)
        self.number, self.run, self.rows = self.parts


class Rising(Denial):
    """A run, a ring that adds to the difference each time, and a run on to the place."""

    def __init__(self, run, ring, on):
        Denial.__init__(self, "rising", run, ring, on)
        self.run, self.ring, self.on = self.parts


class Free(Denial):
    """A run on which the registers have unlike sources."""

    def __init__(self, run):
        Denial.__init__(self, "free", run)
        self.run = self.parts[0]


def greatest(program, machine, place, axis, one, other, words=None):
    """The greatest difference as a Most, or why there is none as a Free or a Rising."""
    field, points = counted_field(program, machine, place, words, axis, one, other)
    names = machine.registers
    return greatest_at(field, points, names.index(one), names.index(other))


def least(program, machine, place, axis, one, other, words=None):
    """What greatest tells of the registers exchanged."""
    field, points = counted_field(program, machine, place, words, axis, one, other)
    names = machine.registers
    return greatest_at(field, points, names.index(other), names.index(one))


def between(program, machine, place, axis, one, other, words=None):
    """The pair of the least and the greatest difference, None for each that there is not."""
    field, points = counted_field(program, machine, place, words, axis, one, other)
    names = machine.registers
    high = greatest_at(field, points, names.index(one), names.index(other))
    low = greatest_at(field, points, names.index(other), names.index(one))
    return (-low.number if isinstance(low, Most) else None, high.number if isinstance(high, Most) else None)


def greatest_at(field, points, one, other):
    """The greatest difference of two registers, told by their indexes, over the runs that stand at some nodes."""
    graph = field.graph
    if one == other:
        return Most(0, graph.run_to(points[0]), ())
    closure = Closure(field, [(at, one, other) for at in points])
    if closure.free is not None:
        return Free(closure.way_on(closure.free))
    found = Heights(closure)
    if found.ring is not None:
        state = found.ring[0]
        run = graph.run_to(closure.parts_of(state)[0])
        return Rising(run, closure.places_of(found.ring), closure.way_on(state))
    if len(closure.order) > MOST_ROWS:
        raise TooMany("rows", MOST_ROWS)
    targets = [closure.state_of(at, one, other) for at in points]
    number = max([int(found.heights[state]) for state in targets])
    highest = [state for state in targets if found.heights[state] == number][0]
    states, point = found.states_to(highest)
    return Most(number, graph.run_to(point) + closure.places_of(states), height_rows(field, closure, found.heights))


def height_rows(field, closure, heights):
    """The rows of all states, in their order."""
    graph, names = field.graph, field.registers
    order = points_in_order(graph)
    ranks = {at: rank for rank, at in enumerate(order)}
    states = {}
    for state in closure.order:
        at, one, other = closure.parts_of(state)
        states[closure.state_of(ranks[at], one, other)] = state
    rows = []
    for rank in sorted([int(rank) for rank in states]):
        at, one, other = closure.parts_of(states[rank])
        place, row = graph.points[at]
        text = str(words_of(row, Standing.NODE_NAMES))
        rows.append((place, text, names[one], names[other], heights[states[rank]]))
    return tuple(rows)
