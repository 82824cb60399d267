"""Comparing two machines that go along the same runs on, one by each of two programs of one shape."""

from takenup.asking import Asking
from takenup.graph import MOST_POINTS
from takenup.ground import NodeField
from takenup.pairfield import Opening, PairField, pair_graph
from takenup.ties import difference
from takenup.unlike import run_apart


class Sides:
    """Two programs on a machine, and the pair nodes that come about from where it begins.

    It begins with pairs of a node of the first program and the row of the number words of the other machine.
    """

    def __init__(self, base, machine, second, begins):
        self.base = base
        self.machine = machine
        self.graph = pair_graph(base.plan, second, MOST_POINTS)
        self.begins = [(node, self.entered(node, other)) for node, other in begins]
        self.fields = {axis: PairField(self.graph, second, machine, axis) for axis in machine.axes}
        self.grounds = {axis: NodeField(base, machine, axis) for axis in machine.axes}

    def entered(self, node, other):
        """The number of the pair node of a node and a row of the other machine's number words."""
        place, row = self.base.points[node]
        return self.graph.enter(place, row + other)

    def openings_on(self, axis, helds):
        """The openings on an axis, with what is held in each."""
        ties = self.grounds[axis].all_ties()
        return [Opening(point, node, held, ties[node]) for (node, point), held in zip(self.begins, helds)]

    def goes_on_alike(self, axis, openings):
        """For each pair node what holds there on an axis, None if some want is not met."""
        return self.fields[axis].settled_ties(openings)

    def asking_on(self, axis):
        """What is wanted on an axis."""
        self.graph.explore()
        return Asking(self.fields[axis])

    def parting_on(self, axis, asking, openings):
        """Where the machines part on an axis: run, run on, inside and what; None if they do not."""
        for opening in openings:
            for pair, number, key in asking.rows_at(opening.point):
                if difference(opening.ties, pair[0], len(self.machine.registers) + pair[1]) != number:
                    return self.parting_by(axis, asking, opening, key)
        return None

    def parting_by(self, axis, asking, opening, key):
        """Where the machines part by a want that is not met at an opening."""
        at, pair, index = key
        number = asking.asked[at][pair][index][0]
        run = run_against(self.grounds[axis], opening, pair, number)
        run_on, inside, what = asking.spot_of(key)
        return (run, run_on, inside, what)


def run_against(field, opening, pair, number):
    """A run that stands at the node of an opening, and on which the difference of a pair is not the number."""
    one, other = pair
    if other == 0 and opening.held is None:
        return field.graph.run_to(opening.node)
    source, added = opening.held if other == 0 else (other, 0)
    return run_apart(field, opening.node, one, source, number + added)
