"""What holds between registers now, and the zeros as they were at the last visit at a place.

Behind the registers of an axis stand copies of its zeros, which no step changes: what the zeros held at the visit.
"""

from takenup.settle import settled
from takenup.ties import difference, tied_alike
from takenup.unlike import run_apart


class VisitGraph:
    """The nodes of a program, in which nothing leads to the nodes of the visited place: there it begins anew."""

    def __init__(self, base, other):
        self.base = base
        self.other = other
        self.aheads = base.ahead_lists()

    def is_visit(self, at):
        """Whether a node is one of the visited place."""
        return self.base.points[at][0] == self.other

    def followers_of(self, at):
        """The numbers of the nodes that can follow a node."""
        return [after for after in self.base.followers_of(at) if not self.is_visit(after)]


class VisitField:
    """An axis at the nodes at which runs stand that have been at a place, and at the nodes of the place.

    It tells for each what holds between its registers and the copies of the zeros.
    """

    def __init__(self, field, base_ties, other):
        self.field = field
        self.base_ties = base_ties
        self.graph = VisitGraph(field.graph, other)
        self.many = len(field.registers)
        self.zeros = list(range(self.many - 3))
        self.kept = tuple([(self.many + at, 0) for at in self.zeros])
        points = [at for at in range(len(field.graph.points)) if self.graph.is_visit(at)]
        self.ties = settled(self, [(at, self.begun(at)) for at in points])

    def begun(self, at):
        """What holds at a node of the place."""
        ties = self.base_ties[at]
        return tied_alike([*ties, *[ties[1 + zero] for zero in self.zeros]])

    def effect_of(self, at):
        """The effect of the step of a node."""
        return self.field.effect_of(at) + self.kept

    def is_refused(self, at, ties):
        """Whether these ties are refused at a node: none are."""
        return False

    def entries_at(self, at):
        """For each register the tuple of it less each zero at the visit, None for what is no one number."""
        ties = self.ties[at]
        return tuple([
            tuple([difference(ties, one, self.many + zero) for zero in self.zeros]) for one in range(self.many)
        ])

    def changed_zero(self, points):
        """The first zero that is not surely at some of these nodes as it was at the visit, None if there is none."""
        for zero in self.zeros:
            if not all([difference(self.ties[at], 1 + zero, self.many + zero) == 0 for at in points]):
                return zero
        return None

    def run_changing(self, points, zero):
        """A run that stands at one of these nodes and along which a zero is not as it was at the visit."""
        search = Changing(self, 1 + zero)
        for at in points:
            search.enter((at, 1 + zero, 0), None)
        return search.found_run()


class Changing:
    """Goes back from nodes to the visits: of which register a zero comes there, and what is added to it.

    A key is a node, a register and what is added from there on. Of each node and register two keys are enough: what a
    register is more than the zero on one run does not make up for both.
    """

    def __init__(self, visits, zero):
        self.visits = visits
        self.zero = zero
        self.links = {}
        self.many_at = {}
        self.queue = []

    def enter(self, key, link):
        """Enters a key that leads on to another one, its link."""
        at, one, _ = key
        many = self.many_at.get((at, one), 0)
        if key not in self.links and many < 2:
            self.links[key] = link
            self.many_at[(at, one)] = many + 1
            self.queue.append(key)

    def found_run(self):
        """The run along which the zero changes; there is one."""
        done = 0
        while True:
            key = self.queue[done]
            done += 1
            at, one, number = key
            if not self.visits.graph.is_visit(at):
                self.go_back(key)
            elif difference(self.visits.base_ties[at], one, self.zero) != -number:
                return run_apart(self.visits.field, at, one, self.zero, -number) + self.places_behind(key)

    def go_back(self, key):
        """Enters what a key comes from."""
        at, one, number = key
        for ahead in self.visits.graph.aheads[at]:
            if ahead in self.visits.ties:
                source, added = self.visits.field.effect_of(ahead)[one]
                self.enter((ahead, source, number + added), key)

    def places_behind(self, key):
        """The tuple of the places to which a key leads on along the links."""
        places = []
        key = self.links[key]
        while key is not None:
            places.append(self.visits.field.graph.points[key[0]][0])
            key = self.links[key]
        return tuple(places)
