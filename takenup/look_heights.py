"""Looking whether a paper shows the greatest difference, or that there is none. Nothing is searched."""

from takenup.checks import is_integer
from takenup.ground import counted_field, difference_along, point_of_run
from takenup.heights import Free, Most, Rising
from takenup.needs import is_place
from takenup.places import is_ring, is_run
from takenup.word_rows import node_texts


def shows_greatest(program, machine, place, axis, one, other, value, words=None):
    """Whether any value is a Most, a Rising or a Free, and shows what it says."""
    field, points = counted_field(program, machine, place, words, axis, one, other)
    first, second = machine.registers.index(one), machine.registers.index(other)
    if isinstance(value, Most):
        return shows_most(field, machine, points, first, second, value)
    if isinstance(value, Rising):
        return shows_rising(field, points, first, second, value)
    if isinstance(value, Free):
        return point_of_run(field, value.run) in points and difference_along(field, value.run, first, second) is None
    return False


def shows_most(field, machine, points, one, other, value):
    """Whether a Most shows that the difference of two registers is nowhere greater at some nodes."""
    number = value.number
    if not is_integer(number) or point_of_run(field, value.run) not in points:
        return False
    if difference_along(field, value.run, one, other) != number:
        return False
    heights = told_heights(field, machine, value.rows)
    if heights is None or not holds_ahead(field, heights):
        return False
    keys = [(at, one, other) for at in points if one != other]
    return all([key in heights and heights[key] <= number for key in keys])


def told_heights(field, machine, rows):
    """The heights by node and registers; None if the rows are not in their form, or tell of where runs begin."""
    if not isinstance(rows, tuple):
        return None
    texts = node_texts(machine)
    heights = {}
    for row in rows:
        key = key_of_row(field, texts, row)
        if key is None or key in heights:
            return None
        heights[key] = row[4]
    return heights


def key_of_row(field, texts, row):
    """The node and the indexes of the registers of which a row tells the height; None if any value is no such row."""
    if not isinstance(row, tuple) or len(row) != 5:
        return None
    place, text, one, other, height = row
    graph, names = field.graph, field.registers
    if not is_place(graph.plan, place) or not isinstance(text, str) or text not in texts:
        return None
    if not all([isinstance(name, str) and name in names for name in (one, other)]) or one == other:
        return None
    at = graph.known.get((place, texts[text]))
    if at is None or graph.parents[at] is None or not is_integer(height):
        return None
    return (at, names.index(one), names.index(other))


def holds_ahead(field, heights):
    """Whether each height is at least what comes about along each edge to its node."""
    aheads = field.graph.ahead_lists()
    for at, one, other in heights:
        height = heights[(at, one, other)]
        for ahead in aheads[at]:
            effect = field.effect_of(ahead)
            source, number = effect[one]
            other_source, other_number = effect[other]
            begun = 0 if source == other_source else heights.get((ahead, source, other_source))
            if begun is None or begun + number - other_number > height:
                return False
    return True


def shows_rising(field, points, one, other, value):
    """Whether a Rising shows that the difference of two registers rises without end at some nodes."""
    graph = field.graph
    run, ring, on = value.run, value.ring, value.on
    if not is_run(graph.plan, run) or not is_ring(graph.plan, ring) or ring[0] != run[-1]:
        return False
    if not is_run(graph.plan, on, ring[0]):
        return False
    begun, row = field.effect_along(run)
    turned, row_again = field.steps.of_run(ring, row, graph.said)
    ended, row_behind = field.steps.of_run(on, row, graph.said)
    if row_again != row or graph.known.get((on[-1], row_behind)) not in points:
        return False
    first, second = ended[one][0], ended[other][0]
    if first == second or begun[first][0] != begun[second][0]:
        return False
    if turned[first][0] != first or turned[second][0] != second:
        return False
    return turned[first][1] - turned[second][1] > 0
