"""Which node words, and which plain words, come about at the places of a program."""

from takenup.graph import node_graph, plain_graph
from takenup.needs import need_place, need_program
from takenup.standing import Standing
from takenup.word_rows import words_of


def arrivals(program, place):
    """The pairs of the node words that come about at a place, and the first run that brings them there."""
    need_program(program)
    need_place(program, place)
    return arrivals_in(node_graph(program), place, Standing.NODE_NAMES)


def plain_arrivals(program, place):
    """The pairs of the plain words that come about at a place, and the first run that brings them there."""
    need_program(program)
    need_place(program, place)
    return arrivals_in(plain_graph(program), place, Standing.PLAIN_NAMES)


def nodes(program):
    """Yields the pair of place and node words for each node."""
    need_program(program)
    graph = node_graph(program)
    for at in points_in_order(graph):
        place, row = graph.points[at]
        yield (place, words_of(row, Standing.NODE_NAMES))


def plain_nodes(program):
    """Yields the pair of place and plain words for all plain words that come about."""
    need_program(program)
    graph = plain_graph(program)
    for at in points_in_order(graph):
        place, row = graph.points[at]
        yield (place, words_of(row, Standing.PLAIN_NAMES))


def arrivals_in(graph, place, names):
    """The pairs of words and first run at a place of a graph."""
    points = [at for at, (reached, _) in enumerate(graph.points) if reached == place]
    return tuple([(words_of(graph.points[at][1], names), graph.run_to(at)) for at in points])


def points_in_order(graph):
    """The numbers of the points, places ascending, those of a place in the order of the first runs."""
    by_place = [[] for _ in range(graph.plan.end + 1)]
    for at, (place, _) in enumerate(graph.points):
        by_place[place].append(at)
    return [at for row in by_place for at in row]
