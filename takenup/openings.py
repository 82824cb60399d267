"""Refusing arguments of the functions that compare two machines."""

from takenup.errors import BadPaper, BadProgram, BadWords
from takenup.ground import node_at
from takenup.needs import is_place, need_fit
from takenup.plain_sides import PlainRuns
from takenup.programs import Program
from takenup.standing import Standing
from takenup.sums import Sum
from takenup.word_rows import number_row, plain_row


def need_second(program, machine, second):
    """The second program: the same for None, otherwise one of the same shape that fits the machine, if there is one."""
    if second is None:
        return program
    need_second_program(program, second)
    if machine is not None:
        need_fit(second.blocks, machine)
    return second


def need_second_program(program, second):
    """Refuses any value that is no program of the same shape."""
    if not isinstance(second, Program):
        raise BadProgram("second")
    if second.shape != program.shape:
        raise BadProgram("shape")


def need_node_words(machine, words):
    """Refuses any value that is no Standing of just all node words, with a zero of the machine."""
    if not isinstance(words, Standing) or words.said != Standing.NODE_NAMES or not words.fits(machine):
        raise BadWords("words")


def need_other_words(machine, other):
    """Refuses any value that is no Standing of just all number words, with a zero of the machine."""
    if not is_number_words(machine, other):
        raise BadWords("other")


def is_number_words(machine, words):
    """Whether any value is a Standing of just all number words, with a zero of the machine."""
    return isinstance(words, Standing) and words.said == Standing.NUMBER_NAMES and words.fits(machine)


def is_plain_words(words):
    """Whether any value is a Standing of plain words alone, perhaps none."""
    return isinstance(words, Standing) and words == words.plain_words


def is_held(machine, held):
    """Whether any value is None or a Sum of a register of the machine."""
    return held is None or isinstance(held, Sum) and held.source in machine.registers


def held_pair(machine, held):
    """The pair of the index of a Sum's register and its number; None for None."""
    return None if held is None else (machine.registers.index(held.source), held.number)


def need_openings(graph, machine, openings):
    """The list of the openings, each as the number of the node, the row of the other's words, and what is held."""
    if not isinstance(openings, (tuple, list)) or len(openings) == 0:
        raise BadPaper("openings")
    return [need_opening(graph, machine, value) for value in openings]


def need_opening(graph, machine, value):
    """One opening as the number of the node, the row of the other machine's words, and what is held."""
    if not isinstance(value, (tuple, list)) or len(value) != 4:
        raise BadPaper("openings")
    place, words, other, held = value
    at = node_at(graph, place, words) if is_place(graph.plan, place) else None
    if at is None or not is_number_words(machine, other) or not is_held(machine, held):
        raise BadPaper("openings")
    return (at, number_row(other), held_pair(machine, held))


def need_plain_openings(program, openings):
    """The list of the openings of plain words, each as a place and the rows of both machines' words."""
    if not isinstance(openings, (tuple, list)) or len(openings) == 0:
        raise BadPaper("openings")
    runs = PlainRuns(program)
    return [need_plain_opening(runs, value) for value in openings]


def need_plain_opening(runs, value):
    """One opening of plain words as a place and the rows of both machines' words."""
    if not isinstance(value, (tuple, list)) or len(value) != 3:
        raise BadPaper("openings")
    place, words, other = value
    if not is_place(runs.plan, place) or not is_plain_node(runs, place, words) or not is_plain_words(other):
        raise BadPaper("openings")
    return (place, plain_row(words), plain_row(other))


def is_plain_node(runs, place, words):
    """Whether any value is the Standing of plain words that come about at a place."""
    if not isinstance(words, Standing) or words.said != Standing.PLAIN_NAMES:
        return False
    return runs.run_with(place, plain_row(words)) is not None
