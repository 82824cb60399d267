"""Two machines side by side on an axis: the pair nodes, what both do there, and what must hold there.

The rows of words of pair nodes are the node words of the first machine, then the number words of the other one.
Registers are told by indexes: first those of the first machine, then those of the other one.
"""

from takenup.effects import StepEffects
from takenup.graph import WordGraph, said_rows
from takenup.settle import settled
from takenup.spots import step_wants
from takenup.standing import Standing
from takenup.ties import difference, tied_alike
from takenup.word_rows import NODE


def pair_graph(program, second, most, pins=None):
    """A graph of pair nodes without any yet."""
    firsts = said_rows(program, Standing.NODE_NAMES)
    others = said_rows(second, Standing.NUMBER_NAMES)
    return WordGraph(program, [one + other for one, other in zip(firsts, others)], most, pins)


class StepMemory:
    """What steps do, and what they want, under the words that come; both known by names of the steps."""

    def __init__(self):
        self.effects = {}
        self.wants = {}


class PairField:
    """The pair nodes of a graph, with the effects of the steps of both on an axis, and the wants of the steps.

    With a memory the names of the steps of both programs are told; it serves for other programs, too.
    """

    def __init__(self, graph, second, machine, axis, memory=None, names=None, other_names=None):
        self.graph = graph
        self.plan = graph.plan
        self.second = second
        self.axis = axis
        self.many = len(machine.registers)
        self.memory = StepMemory() if memory is None else memory
        self.names = [f"{place}" for place in range(second.end)] if names is None else names
        self.other_names = other_names
        if other_names is None:
            is_same = second == graph.plan
            self.other_names = self.names if is_same else [f"other {place}" for place in range(second.end)]
        self.firsts = StepEffects(graph.plan, machine, axis, self.names, self.memory.effects)
        self.others = StepEffects(second, machine, axis, self.other_names, self.memory.effects)
        self.effects = {}

    def effect_of(self, at):
        """The effect of the steps of both machines at a pair node, on the registers of both."""
        if at not in self.effects:
            place, row = self.graph.points[at]
            self.effects[at] = self.both_effects(place, row)
        return self.effects[at]

    def both_effects(self, place, row):
        """The effect of the steps of both machines at a place under words, on the registers of both."""
        other_effect = self.others.effect_at(place, row[NODE:])
        moved = tuple([(source + self.many, number) for source, number in other_effect])
        return self.firsts.effect_at(place, row) + moved

    def wants_of(self, at):
        """The wants of the steps at a pair node, as rows."""
        place, row = self.graph.points[at]
        return self.wants_at(place, row)

    def wants_at(self, place, row):
        """The wants of the steps of a place under words, none at the end."""
        if place == self.plan.end:
            return []
        key = (self.names[place], self.other_names[place], row)
        if key not in self.memory.wants:
            step, second = self.plan[place], self.second[place]
            wants, _, _ = step_wants(self.many, self.axis, step, second, row[:NODE], row[NODE:])
            self.memory.wants[key] = wants
        return self.memory.wants[key]

    def is_refused(self, at, ties):
        """Whether some want of the steps at a pair node is not met by what holds there."""
        return any([difference(ties, want[0], self.many + want[1]) != want[2] for want in self.wants_of(at)])

    def settled_ties(self, openings):
        """For each pair node what holds between the registers of both, None if some want is not met."""
        return settled(self, [(one.point, one.ties) for one in openings])


class Opening:
    """A pair node with which it begins: where, and what holds there between the registers of both.

    Held is None or the pair of the index of a register and a number.
    """

    def __init__(self, point, node, held, ties):
        self.point = point
        self.node = node
        self.held = held
        self.ties = opened_ties(ties, held)


def opened_ties(ties, held):
    """What holds between the registers of both machines where all kept registers are the same."""
    position = ("any", 0)
    if held is not None:
        source, number = held
        position = (ties[source][0], ties[source][1] + number)
    return tied_alike([*ties, position, *ties[1:]])
