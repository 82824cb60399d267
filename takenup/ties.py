"""What surely holds between registers, as rows, and how it is written.

Ties are told as a row with a pair for each register, in order: the index of the first register that is in one tie with
it, and by how much it is more than that one.
"""

from takenup.checks import is_integer


def apart_ties(many):
    """The ties of so many registers of which no two are tied."""
    return tuple([(at, 0) for at in range(many)])


def ties_behind(ties, effect):
    """The ties behind an effect."""
    return tied_alike([(ties[source][0], ties[source][1] + number) for source, number in effect])


def common_ties(one, other):
    """The ties of registers whose difference is the same number in both."""
    return tied_alike([((mine, its, more - less), more) for (mine, more), (its, less) in zip(one, other)])


def tied_alike(pairs):
    """The ties of registers with these pairs of what they are tied by, and a number."""
    heads = {}
    ties = []
    for at, (head, number) in enumerate(pairs):
        if head in heads:
            first, base = heads[head]
            ties.append((first, number - base))
        else:
            heads[head] = (at, number)
            ties.append((at, 0))
    return tuple(ties)


def difference(ties, one, other):
    """The difference of two registers, told by their indexes; None if they are not tied."""
    head, number = ties[one]
    other_head, other_number = ties[other]
    return number - other_number if head == other_head else None


def written_ties(registers, ties):
    """The ties as a tuple of ties, each a tuple of pairs of a register and a number."""
    rows = {}
    for name, (head, number) in zip(registers, ties):
        rows.setdefault(head, []).append((name, number))
    return tuple([tuple(row) for row in rows.values()])


def read_ties(registers, value):
    """The ties of these registers that any value tells, in any order; None if it does not tell of each one once."""
    if not isinstance(value, tuple) or not all([is_tie(tie) for tie in value]):
        return None
    found = {}
    for at, tie in enumerate(value):
        for name, number in tie:
            if name in found:
                return None
            found[name] = (at, number)
    if not all([name in found for name in registers]):
        return None
    return tied_alike([found[name] for name in registers])


def is_tie(value):
    """Whether any value is a tuple of pairs of a string and an integer."""
    return isinstance(value, tuple) and all([is_tied_pair(pair) for pair in value])


def is_tied_pair(value):
    """Whether any value is a pair of a string and an integer."""
    return isinstance(value, tuple) and len(value) == 2 and isinstance(value[0], str) and is_integer(value[1])


def is_within_ties(ties, held):
    """Whether each difference that ties tell is told by the held ones, too."""
    return common_ties(ties, held) == ties
