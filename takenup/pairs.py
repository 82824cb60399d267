"""Two machines side by side: what must hold for them to agree from somewhere on, and tables that show that it does."""

from takenup.asking import Asking
from takenup.blocks import Block
from takenup.checks import is_integer
from takenup.errors import BadProgram, NoNode, NoRegister
from takenup.graph import MOST_POINTS, node_graph
from takenup.items import Told, blocks_in, item_shape
from takenup.machines import need_machine
from takenup.needs import need_both, need_place, need_program
from takenup.openings import need_node_words, need_openings, need_other_words, need_plain_openings, need_second
from takenup.pairfield import PairField, pair_graph
from takenup.papers import Denial, Paper
from takenup.plain_sides import PlainRuns, PlainSides
from takenup.sides import Sides
from takenup.spots import step_wants
from takenup.standing import Standing
from takenup.stepping import need_axis
from takenup.sums import Sum
from takenup.ties import difference
from takenup.word_rows import node_row, number_row, read_words, words_of


class Want(Paper):
    """A pair of registers, the number that its difference must be, and the spot that asks it."""

    def __init__(self, one, other, number, run_on=(), inside=(), what="ends"):
        Paper.__init__(self, "want", one, other, number, run_on, inside, what)
        self.one, self.other, self.number, self.run_on, self.inside, self.what = self.parts

    def __str__(self):
        return f"{self.one} - {self.other} = {self.number}"


class Parting(Denial):
    """A run, and a spot of a run on from there, at which two machines part."""

    def __init__(self, run, run_on, inside, what):
        Denial.__init__(self, "parting", run, run_on, inside, what)
        self.run, self.run_on, self.inside, self.what = self.parts


class PairTable(Paper):
    """The known differences of pairs of an axis at pair nodes."""

    def __init__(self, axis, rows):
        Paper.__init__(self, "pairtable", axis, rows)
        self.axis, self.rows = self.parts
        self.known = rows_by_node(self.rows, 4)
        self.triples = triples_of(self.known)

    def __call__(self, place, words, other, one, another):
        if (place, words, other) not in self:
            raise NoNode(place, words)
        for name in (one, another):
            if not isinstance(name, str) or name not in Sum.NAMES:
                raise NoRegister(name)
        return number_of(self.known[(place, str(words), str(other))][3], one, another)

    def __contains__(self, x):
        return is_pair_node(x) and (x[0], str(x[1]), str(x[2])) in self.known

    def __len__(self):
        return len(self.rows)

    def __iter__(self):
        return iter(self.triples)


class PlainTable(Paper):
    """Plain pair nodes."""

    def __init__(self, rows):
        Paper.__init__(self, "plaintable", rows)
        self.rows = self.parts[0]
        self.known = rows_by_node(self.rows, 3)
        self.triples = triples_of(self.known)

    def __contains__(self, x):
        return is_pair_node(x) and (x[0], str(x[1]), str(x[2])) in self.known

    def __len__(self):
        return len(self.rows)

    def __iter__(self):
        return iter(self.triples)


def is_pair_node(value):
    """Whether any value is a tuple or list of an integer and two Standings."""
    if not isinstance(value, (tuple, list)) or len(value) != 3:
        return False
    return is_integer(value[0]) and isinstance(value[1], Standing) and isinstance(value[2], Standing)


def rows_by_node(rows, many):
    """The rows of so many parts by their place and texts, if these are such; a table can be made of any value."""
    found = {}
    for row in rows if isinstance(rows, tuple) else ():
        if isinstance(row, tuple) and len(row) == many and is_integer(row[0]):
            if isinstance(row[1], str) and isinstance(row[2], str):
                found.setdefault(row[:3], row)
    return found


def triples_of(known):
    """The tuple of the place and both Standings of each key, in order, if its texts can be read."""
    read = {}
    for _, text, other_text in known:
        for one in (text, other_text):
            if one not in read:
                read[one] = read_words(one)
    triples = [(place, read[text], read[other_text]) for place, text, other_text in known]
    return tuple([(place, one, other) for place, one, other in triples if one is not None and other is not None])


def number_of(triples, one, another):
    """The number of a pair among triples, None if it is not there."""
    for name, other_name, number in triples:
        if name == one and other_name == another:
            return number
    return None


def wants(machine, axis, words, step, other, second=None):
    """The tuple of the Wants of a step for an axis, ahead of the step, in the order of play."""
    need_machine(machine)
    need_axis(machine, axis)
    need_node_words(machine, words)
    if not is_step_for(machine, step):
        raise BadProgram("step")
    need_other_words(machine, other)
    if second is not None and not (is_step_for(machine, second) and item_shape(second) == item_shape(step)):
        raise BadProgram("second")
    names = machine.registers
    second = step if second is None else second
    rows, _, _ = step_wants(len(names), axis, step, second, node_row(words), number_row(other))
    return tuple([
        Want(names[one], names[another], number, (), inside, what) for one, another, number, inside, what in rows
    ])


def is_step_for(machine, step):
    """Whether any value is a block or a told that fits the machine."""
    return isinstance(step, (Block, Told)) and all([block.fits(machine) for block in blocks_in([step])])


def asked(program, machine, axis, place, words, other, second=None):
    """The tuple of the Wants of all runs on from a place."""
    need_both(program, machine)
    need_axis(machine, axis)
    need_place(program, place)
    need_node_words(machine, words)
    need_other_words(machine, other)
    second = need_second(program, machine, second)
    graph = pair_graph(program, second, MOST_POINTS)
    graph.enter(place, node_row(words) + number_row(other))
    graph.explore()
    asking = Asking(PairField(graph, second, machine, axis))
    return tuple([want_of(machine, asking, row) for row in asking.rows_in_order(0)])


def want_of(machine, asking, row):
    """The Want of a row of what is asked."""
    (one, another), number, key = row
    run_on, inside, what = asking.spot_of(key)
    return Want(machine.registers[one], machine.registers[another], number, run_on, inside, what)


def pair_table(program, machine, axis, openings, second=None):
    """The PairTable of all pair nodes that come about, if the axis goes on alike; otherwise a Parting."""
    need_both(program, machine)
    need_axis(machine, axis)
    graph = node_graph(program)
    rows = need_openings(graph, machine, openings)
    second = need_second(program, machine, second)
    sides = Sides(graph, machine, second, [row[:2] for row in rows])
    sides.graph.explore()
    return compared_on(sides, axis, [row[2] for row in rows])


def compared_on(sides, axis, helds):
    """The PairTable of an axis on which two machines go on alike; otherwise a Parting."""
    openings = sides.openings_on(axis, helds)
    ties = sides.goes_on_alike(axis, openings)
    if ties is not None:
        return PairTable(axis, pair_rows(sides, ties))
    parting = sides.parting_on(axis, sides.asking_on(axis), openings)
    return Parting(*parting)


def pair_rows(sides, ties):
    """The rows of a PairTable, in order."""
    names = sides.machine.registers
    texts = texts_of(sides.graph, Standing.NODE_NAMES, Standing.NUMBER_NAMES)
    rows = []
    for at in points_by_text(sides.graph, texts):
        one_text, other_text = texts[at]
        rows.append((sides.graph.points[at][0], one_text, other_text, known_pairs(names, ties[at])))
    return rows


def known_pairs(names, ties):
    """The triples of the pairs whose difference is known, in order."""
    many = len(names)
    triples = []
    for one in range(many):
        for other in range(many):
            number = difference(ties, one, many + other)
            if number is not None:
                triples.append((names[one], names[other], number))
    return triples


def texts_of(graph, names, other_names):
    """The texts of both machines' words at each point of a graph."""
    texts = {}
    for _, row in graph.points:
        if row not in texts:
            one, other = row[:len(names)], row[len(names):]
            texts[row] = (str(words_of(one, names)), str(words_of(other, other_names)))
    return [texts[row] for _, row in graph.points]


def points_by_text(graph, texts):
    """The points of a graph by place, then by the text of the first machine's words, then by the other one's."""
    found = {}
    for at, (place, _) in enumerate(graph.points):
        one, other = texts[at]
        found[f"{place:02d}\n{one}\n{other}"] = at
    return [found[text] for text in sorted([str(text) for text in found])]


def plain_table(program, openings, second=None):
    """The PlainTable of all that comes about, if the machines agree at all plain spots; otherwise a Parting."""
    need_program(program)
    begins = need_plain_openings(program, openings)
    second = need_second(program, None, second)
    return plain_compared(program, second, begins)


def plain_compared(program, second, begins):
    """The PlainTable of two machines that agree at all plain spots; otherwise a Parting."""
    sides = PlainSides(program, second, begins)
    if sides.parting is not None:
        place, row, run_on, inside, what = sides.parting
        runs = PlainRuns(program)
        return Parting(runs.run_with(place, row), run_on, inside, what)
    texts = texts_of(sides.graph, Standing.PLAIN_NAMES, Standing.PLAIN_NAMES)
    return PlainTable([(sides.graph.points[at][0], *texts[at]) for at in points_by_text(sides.graph, texts)])
