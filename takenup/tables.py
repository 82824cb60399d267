"""Tables of differences: which registers of an axis surely differ by one number, at each node."""

from takenup.arrivals import points_in_order
from takenup.checks import is_integer
from takenup.errors import BadPaper, NoAxis, NoNode, NoRegister
from takenup.graph import node_graph
from takenup.ground import NodeField
from takenup.needs import need_both, need_program
from takenup.papers import Paper
from takenup.standing import Standing
from takenup.ties import written_ties
from takenup.word_rows import read_words, words_of


class Table(Paper):
    """The ties of each axis at nodes."""

    def __init__(self, rows):
        Paper.__init__(self, "table", rows)
        self.rows = self.parts[0]
        self.ties = ties_by_node(self.rows)
        self.known = nodes_by_text(self.ties)
        self.pairs = tuple(self.known.values())

    def __call__(self, place, words, axis, one, other):
        ties = self.tied(place, words, axis)
        at, number = tie_with(ties, one)
        other_at, other_number = tie_with(ties, other)
        return number - other_number if at == other_at else None

    def tied(self, place, words, axis):
        """The ties of an axis at a node."""
        if (place, words) not in self:
            raise NoNode(place, words)
        if not isinstance(axis, str) or (place, str(words), axis) not in self.ties:
            raise NoAxis(axis)
        return self.ties[(place, str(words), axis)]

    def __contains__(self, x):
        return is_node_of(self.known, x)

    def __len__(self):
        return len(self.pairs)

    def __iter__(self):
        return iter(self.pairs)

    def is_part_of(self, other):
        """Whether the other table tells each number that this one tells."""
        if not isinstance(other, Table):
            raise BadPaper("other")
        if not all([key in other.known for key in self.known]):
            return False
        return all([key in other.ties and is_told_by(self.ties[key], other.ties[key]) for key in self.ties])


def edges(program):
    """Yields for each edge the place and words that it leads from, and those to which it leads."""
    need_program(program)
    graph = node_graph(program)
    held = [words_of(row, Standing.NODE_NAMES) for _, row in graph.points]
    for at in points_in_order(graph):
        for after in graph.followed[at]:
            yield (graph.points[at][0], held[at], graph.points[after][0], held[after])


def differences(program, machine):
    """The Table of all differences."""
    need_both(program, machine)
    return table_of(node_graph(program), machine)


def table_of(graph, machine):
    """The Table of all differences at the nodes of a graph."""
    return table_with(graph, machine, [NodeField(graph, machine, axis).all_ties() for axis in machine.axes])


def table_with(graph, machine, ties):
    """The Table of the ties of each axis at the nodes of a graph."""
    rows = []
    for at in points_in_order(graph):
        place, row = graph.points[at]
        text = str(words_of(row, Standing.NODE_NAMES))
        for axis, held in zip(machine.axes, ties):
            rows.append((place, text, axis, written_ties(machine.registers, held[at])))
    return Table(rows)


def ties_by_node(rows):
    """The ties by place, text and axis, of those rows that have these; a table can be made of any value."""
    found = {}
    for row in rows if isinstance(rows, tuple) else ():
        if isinstance(row, tuple) and len(row) == 4:
            place, text, axis, ties = row
            if is_integer(place) and isinstance(text, str) and isinstance(axis, str):
                found.setdefault((place, text, axis), ties)
    return found


def nodes_by_text(ties):
    """The pair of place and Standing of each node, by place and text, in the order of the rows."""
    read = {}
    found = {}
    for place, text, _ in ties:
        if text not in read:
            read[text] = read_words(text)
        if read[text] is not None:
            found[(place, text)] = (place, read[text])
    return found


def is_node_of(known, value):
    """Whether any value is the pair of a place and a Standing that are known by the text of the Standing."""
    if not isinstance(value, (tuple, list)) or len(value) != 2:
        return False
    place, words = value
    return is_integer(place) and isinstance(words, Standing) and (place, str(words)) in known


def tie_with(ties, name):
    """The index of the tie in which any value is a register, and its number there."""
    for at, tie in enumerate(ties):
        for held, number in tie:
            if isinstance(name, str) and held == name:
                return at, number
    raise NoRegister(name)


def is_told_by(ties, other):
    """Whether each difference that the ties tell as a number is the same number by the other ones."""
    places = {name: (at, number) for at, tie in enumerate(other) for name, number in tie}
    for tie in ties:
        first, base = tie[0]
        for name, number in tie:
            if name not in places or first not in places:
                return False
            at, value = places[name]
            first_at, first_value = places[first]
            if at != first_at or value - first_value != number - base:
                return False
    return True
