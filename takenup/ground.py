"""The nodes of a program, with what its steps do on an axis, and what surely holds there."""

from takenup.effects import StepEffects
from takenup.errors import NoNode, NoRegister
from takenup.graph import node_graph
from takenup.needs import need_both, need_place
from takenup.places import is_run
from takenup.settle import settled
from takenup.standing import Standing
from takenup.stepping import need_axis
from takenup.ties import apart_ties
from takenup.word_rows import node_row


class NodeField:
    """The nodes of a program, with the effect of the step of each on an axis."""

    def __init__(self, graph, machine, axis):
        self.graph = graph
        self.axis = axis
        self.registers = machine.registers
        self.steps = StepEffects(graph.plan, machine, axis)

    def effect_of(self, at):
        """The effect of the step of a node."""
        place, row = self.graph.points[at]
        return self.steps.effect_at(place, row)

    def effect_along(self, run):
        """The effect of the steps of a run on an axis, and the node words behind it."""
        return self.steps.of_run(run, node_row(Standing.first()), self.graph.said)

    def is_refused(self, at, ties):
        """Whether these ties are refused at a node: none are."""
        return False

    def all_ties(self):
        """For each node the ties that hold there on all runs."""
        many = len(self.registers)
        begins = [(at, apart_ties(many)) for at, parent in enumerate(self.graph.parents) if parent is None]
        return settled(self, begins)


def asked_field(program, machine, place, words, axis, one, other):
    """The field of an axis and the number of a node, if there are this node, this axis and these registers."""
    need_both(program, machine)
    need_place(program, place)
    graph = node_graph(program)
    at = need_node(graph, place, words)
    need_axis(machine, axis)
    need_registers(machine, (one, other))
    return NodeField(graph, machine, axis), at


def counted_field(program, machine, place, words, axis, one, other):
    """Likewise, with the list of the nodes whose runs count: those of the place if words are None."""
    if words is not None:
        field, at = asked_field(program, machine, place, words, axis, one, other)
        return field, [at]
    need_both(program, machine)
    need_place(program, place)
    need_axis(machine, axis)
    need_registers(machine, (one, other))
    graph = node_graph(program)
    points = [at for at, (reached, _) in enumerate(graph.points) if reached == place]
    return NodeField(graph, machine, axis), points


def node_at(graph, place, words):
    """The number of the node of a place and any value as its words, None if they are no node."""
    if not isinstance(words, Standing) or words.said != Standing.NODE_NAMES:
        return None
    return graph.known.get((place, node_row(words)))


def need_node(graph, place, words):
    """The number of the node of a place and any value as its words, which must be one."""
    at = node_at(graph, place, words)
    if at is None:
        raise NoNode(place, words)
    return at


def need_registers(machine, names):
    """Refuses the first value that is no register of the machine."""
    for name in names:
        if not isinstance(name, str) or name not in machine.registers:
            raise NoRegister(name)


def point_of_run(field, run):
    """The number of the node at which any value stands as a run, None if it is no run."""
    if not is_run(field.graph.plan, run):
        return None
    _, row = field.effect_along(run)
    return field.graph.known[(run[-1], row)]


def difference_along(field, run, one, other):
    """The difference of two registers on a run, None if they have unlike sources on it."""
    effect, _ = field.effect_along(run)
    source, number = effect[one]
    other_source, other_number = effect[other]
    return number - other_number if source == other_source else None
