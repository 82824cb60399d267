"""Looking whether pair tables and plain tables show that machines agree."""

from takenup.checks import is_integer
from takenup.needs import is_place
from takenup.openings import is_plain_words
from takenup.pairfield import PairField, pair_graph
from takenup.pairs import PairTable, PlainTable
from takenup.plain_sides import PLAIN, plain_pair_said
from takenup.spots import parted_plain
from takenup.standing import Standing
from takenup.ties import difference
from takenup.word_rows import laid, node_texts, number_texts, plain_row, read_words


def pairs_hold(program, machine, axis, opened, value, second):
    """Whether any value is a PairTable that shows that an axis goes on alike.

    Opened are the openings, each as its place, the row of words of its pair node, and what holds there.
    """
    if not isinstance(value, PairTable) or value.axis != axis:
        return False
    told = told_pairs(program, machine, value.rows)
    if told is None:
        return False
    for place, row, ties in opened:
        if (place, row) not in told or not holds_by(ties, told[(place, row)], len(machine.registers)):
            return False
    field = PairField(pair_graph(program, second, None), second, machine, axis)
    return all([goes_on_by(field, told, place, row) for place, row in told])


def told_pairs(program, machine, rows):
    """The dict of the numbers of pairs, by place and row of words; None if the rows are not in their form."""
    if not isinstance(rows, tuple):
        return None
    texts, other_texts = node_texts(machine), number_texts(machine)
    told = {}
    for row in rows:
        if not isinstance(row, tuple) or len(row) != 4 or not is_place(program, row[0]):
            return None
        place, text, other, known = row
        if not isinstance(text, str) or text not in texts or not isinstance(other, str) or other not in other_texts:
            return None
        key = (place, texts[text] + other_texts[other])
        numbers = numbers_of_pairs(machine.registers, known)
        if key in told or numbers is None:
            return None
        told[key] = numbers
    return told


def numbers_of_pairs(names, known):
    """The number of each pair, told by indexes; None if any value is no tuple of triples, or tells one twice."""
    if not isinstance(known, tuple):
        return None
    numbers = {}
    for triple in known:
        if not isinstance(triple, tuple) or len(triple) != 3:
            return None
        one, other, number = triple
        if not all([isinstance(name, str) and name in names for name in (one, other)]) or not is_integer(number):
            return None
        pair = (names.index(one), names.index(other))
        if pair in numbers:
            return None
        numbers[pair] = number
    return numbers


def holds_by(ties, numbers, many):
    """Whether each number of a pair is told by the ties of the registers of both machines."""
    return all([difference(ties, one, many + other) == numbers[(one, other)] for one, other in numbers])


def goes_on_by(field, told, place, row):
    """Whether what is told of a pair node meets what its steps want, and is enough for what is told behind them."""
    if place == field.plan.end:
        return True
    numbers = told[(place, row)]
    for one, other, number, _, _ in field.wants_at(place, row):
        if numbers.get((one, other)) != number:
            return False
    behind = laid(row, field.graph.said[place])
    effect = field.both_effects(place, row)
    for after in field.plan.after(place):
        if (after, behind) not in told or not follows(numbers, effect, told[(after, behind)], field.many):
            return False
    return True


def follows(numbers, effect, behind, many):
    """Whether each number of a pair behind an effect comes from one ahead."""
    for one, other in behind:
        source, added = effect[one]
        other_source, other_added = effect[many + other]
        if numbers.get((source, other_source - many)) != behind[(one, other)] + other_added - added:
            return False
    return True


def plains_hold(program, begins, value, second):
    """Whether any value is a PlainTable that shows that the machines agree at all plain spots.

    Begins are triples of a place and the rows of both machines' plain words.
    """
    told = told_plains(program, value.rows) if isinstance(value, PlainTable) else None
    if told is None or not all([(place, row + other) in told for place, row, other in begins]):
        return False
    said = plain_pair_said(program, second)
    for place, row in told:
        if place < program.end:
            if parted_plain(program[place], second[place], row[:PLAIN], row[PLAIN:]) is not None:
                return False
            if not all([(after, laid(row, said[place])) in told for after in program.after(place)]):
                return False
    return True


def told_plains(program, rows):
    """The places and rows of words that are told; None if the rows are not in their form, or one is double."""
    if not isinstance(rows, tuple):
        return None
    told = {}
    for row in rows:
        if not isinstance(row, tuple) or len(row) != 3 or not is_place(program, row[0]):
            return None
        words, other = read_words(row[1]), read_words(row[2])
        if words is None or words.said != Standing.PLAIN_NAMES or not is_plain_words(other):
            return None
        key = (row[0], plain_row(words) + plain_row(other))
        if key in told:
            return None
        told[key] = True
    return told
