"""To which places the work can go back, whatever a break left, with all zeros as they were there."""

from takenup.arrivals import points_in_order
from takenup.cuts import Cuts, most_cuts
from takenup.errors import NoAxis, NoNode, NoPlace, NoRegister
from takenup.graph import node_graph
from takenup.ground import NodeField
from takenup.needs import is_place, need_both, need_place
from takenup.papers import Denial, Paper
from takenup.places import first_run_to, need_other_place
from takenup.standing import Standing
from takenup.tables import is_node_of, nodes_by_text, table_with, ties_by_node
from takenup.takeups import take_up
from takenup.visits import VisitField
from takenup.word_rows import words_of


class Since(Paper):
    """Registers less the zeros at the last visit at a place."""

    def __init__(self, other, table, rows):
        Paper.__init__(self, "since", other, table, rows)
        self.other, self.table, self.rows = self.parts
        self.entries = ties_by_node(self.rows)
        self.known = nodes_by_text(self.entries)
        self.pairs = tuple(self.known.values())

    def __call__(self, place, words, axis, one, zero):
        if (place, words) not in self:
            raise NoNode(place, words)
        if not isinstance(axis, str) or (place, str(words), axis) not in self.entries:
            raise NoAxis(axis)
        entries = self.entries[(place, str(words), axis)]
        zeros = [f"z{at}" for at in range(len(entries) - 3)]
        registers = ["p", *zeros, "o", "s"]
        if not isinstance(one, str) or one not in registers:
            raise NoRegister(one)
        if not isinstance(zero, str) or zero not in zeros:
            raise NoRegister(zero)
        return entries[registers.index(one)][zeros.index(zero)]

    def __contains__(self, x):
        return is_node_of(self.known, x)

    def __len__(self):
        return len(self.pairs)

    def __iter__(self):
        return iter(self.pairs)


class Back(Paper):
    """The TakenUp of a place, what holds since its last visit, and how many cuts there are since."""

    def __init__(self, taken, then, cuts):
        Paper.__init__(self, "back", taken, then, cuts)
        self.taken, self.then, self.cuts = self.parts


class NoWay(Denial):
    """Why there is no way back: a run, or a paper, or a run and what changed along it."""

    def __init__(self, reason, run, paper):
        Denial.__init__(self, "noway", reason, run, paper)
        self.reason, self.run, self.paper = self.parts


class Ways:
    """What ways back are found with: the nodes of a program, and what holds there on each axis."""

    def __init__(self, program, machine):
        self.machine = machine
        self.graph = node_graph(program)
        self.fields = [NodeField(self.graph, machine, axis) for axis in machine.axes]
        self.ties = [field.all_ties() for field in self.fields]

    def since(self, other, visits):
        """The Since of a place, told by its VisitField of each axis."""
        rows = []
        for at in points_in_order(self.graph):
            if at in visits[0].ties:
                place, row = self.graph.points[at]
                text = str(words_of(row, Standing.NODE_NAMES))
                for axis, visited in zip(self.machine.axes, visits):
                    rows.append((place, text, axis, visited.entries_at(at)))
        return Since(other, table_with(self.graph, self.machine, self.ties), rows)

    def visits_at(self, other):
        """The VisitField of each axis for a place."""
        return [VisitField(field, ties, other) for field, ties in zip(self.fields, self.ties)]

    def way_from(self, place, other):
        """The Back from a place to another one, or the NoWay."""
        program = self.graph.plan
        missed = first_run_to(program, place, program.starts, other)
        if missed is not None:
            return NoWay("missed", missed, None)
        visits = self.visits_at(other)
        points = [at for at, (reached, _) in enumerate(self.graph.points) if reached == place]
        for axis, visited in zip(self.machine.axes, visits):
            zero = visited.changed_zero(points)
            if zero is not None:
                return NoWay("zero", visited.run_changing(points, zero), (axis, f"z{zero}"))
        taken = take_up(program, self.machine, other)
        if not taken:
            return NoWay("unserved", None, taken)
        return Back(taken, self.since(other, visits), most_cuts(program, place, other))


def since_last(program, machine, other):
    """The Since of a place."""
    need_both(program, machine)
    if not is_place(program, other):
        raise NoPlace(other)
    ways = Ways(program, machine)
    return ways.since(other, ways.visits_at(other))


def way_back(program, machine, place, other):
    """The Back from a place to another one, or the NoWay."""
    need_both(program, machine)
    need_place(program, place)
    need_other_place(program, place, other)
    return Ways(program, machine).way_from(place, other)


def ways_back(program, machine, place):
    """Yields the pairs of a place and the Back to it, places ascending."""
    need_both(program, machine)
    need_place(program, place)
    ways = Ways(program, machine)
    for other in range(program.end + 1):
        if other != place:
            way = ways.way_from(place, other)
            if way:
                yield (other, way)


def last_back(program, machine, place):
    """The pair of a place and the Back to it with the fewest cuts, then the greatest place; None without any."""
    best = None
    for other, way in ways_back(program, machine, place):
        if best is None or not is_more(way.cuts, best[1].cuts):
            best = (other, way)
    return best


def is_more(one, other):
    """Whether the first paper of most cuts tells more than the other one."""
    if not isinstance(one, Cuts):
        return isinstance(other, Cuts)
    return isinstance(other, Cuts) and one.number > other.number
