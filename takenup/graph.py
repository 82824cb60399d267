"""Which words come about at which places: points that are reached from one another, in the order of runs."""

from takenup.errors import TooMany
from takenup.standing import Standing
from takenup.word_rows import laid, node_row, plain_row, said_by

MOST_POINTS = 2000


class WordGraph:
    """Points, each a place with a row of words. Each gets a number, in the order in which they are reached.

    If the points at which runs begin are entered in their order, and then all are explored, this is the order of the
    first runs that reach them. It holds no more points than most, any number if this is None. Pins are a row for each
    place, laid over the words of each point: so words that mean nothing there make no points of their own.
    """

    def __init__(self, program, said, most=None, pins=None):
        self.plan = program
        self.said = said
        self.most = most
        self.pins = pins
        self.points = []
        self.known = {}
        self.parents = []
        self.followed = []

    def enter(self, place, row, parent=None):
        """The number of a point, which is reached from its parent, or at which runs begin."""
        key = (place, row if self.pins is None else laid(row, self.pins[place]))
        if key in self.known:
            return self.known[key]
        at = len(self.points)
        if at == self.most:
            raise TooMany("nodes", self.most)
        self.known[key] = at
        self.points.append(key)
        self.parents.append(parent)
        self.followed.append(None)
        return at

    def followers_of(self, at):
        """The numbers of the points that can follow a point."""
        if self.followed[at] is None:
            place, row = self.points[at]
            if place < self.plan.end:
                row = laid(row, self.said[place])
            self.followed[at] = [self.enter(after, row, at) for after in self.plan.after(place)]
        return self.followed[at]

    def explore(self):
        """Reaches all points that there are."""
        at = 0
        while at < len(self.points):
            self.followers_of(at)
            at += 1

    def ahead_lists(self):
        """For each point the list of the points that it can follow, when all are explored."""
        rows = [[] for _ in self.points]
        for at, after_points in enumerate(self.followed):
            for after in after_points:
                rows[after].append(at)
        return rows

    def joins(self):
        """The points parted by what can follow them, when all are explored.

        Returns the list of the points of each part, and for each point the list of the parts that it can follow. Where
        many points can follow as many others, this is far shorter than all pairs of them.
        """
        parts = {}
        for at, after_points in enumerate(self.followed):
            parts.setdefault(tuple(after_points), []).append(at)
        behind = [[] for _ in self.points]
        for part, after_points in enumerate(parts):
            for after in after_points:
                behind[after].append(part)
        return list(parts.values()), behind

    def begin_of(self, at):
        """The point without a parent from which a point was first reached."""
        while self.parents[at] is not None:
            at = self.parents[at]
        return at

    def run_to(self, at):
        """The places along which a point was first reached, as a tuple."""
        places = []
        while at is not None:
            places.append(self.points[at][0])
            at = self.parents[at]
        return tuple(places[::-1])


def said_rows(program, names):
    """For each step the row of what it says under some names that stand side by side in those of a Standing."""
    low = Standing.NAMES.index(names[0])
    return [said_by(step)[low:low + len(names)] for step in program.steps]


def node_graph(program):
    """All nodes of a program."""
    graph = WordGraph(program, said_rows(program, Standing.NODE_NAMES))
    enter_starts(graph, node_row(Standing.first()))
    return graph


def plain_graph(program):
    """All plain nodes of a program, 2,000 at most."""
    graph = WordGraph(program, said_rows(program, Standing.PLAIN_NAMES), MOST_POINTS)
    enter_starts(graph, plain_row(Standing.first()))
    return graph


def enter_starts(graph, row):
    """Enters the starts with one row of words, and explores the graph."""
    for start in graph.plan.starts:
        graph.enter(start, row)
    graph.explore()


def plain_rows_at(program, place):
    """The list of the rows of plain words that come about at a place, however many there are in all.

    Places that the same ones can follow lead on together, once for each row behind their steps.
    """
    said = said_rows(program, Standing.PLAIN_NAMES)
    found = {}
    known = {(program.starts, plain_row(Standing.first())): True}
    queue = list(known)
    while len(queue) > 0:
        places, row = queue.pop()
        if place in places:
            found[row] = True
        for at in places:
            if at < program.end:
                key = (program.after(at), laid(row, said[at]))
                if key not in known:
                    known[key] = True
                    queue.append(key)
    return list(found)
