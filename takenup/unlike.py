"""Two runs that show that the difference of two registers at a node is no number."""

from takenup.closure import Closure
from takenup.ground import asked_field, difference_along
from takenup.papers import Paper


class Unlike(Paper):
    """Two runs on which registers have unlike sources or unlike differences."""

    def __init__(self, one, other):
        Paper.__init__(self, "unlike", one, other)
        self.one, self.other = self.parts


def unlike(program, machine, place, words, axis, one, other):
    """None if the difference at the node is a number; otherwise two runs that show that it is none."""
    field, at = asked_field(program, machine, place, words, axis, one, other)
    names = machine.registers
    runs = unlike_runs(field, at, names.index(one), names.index(other))
    return None if runs is None else Unlike(*runs)


def unlike_runs(field, at, one, other):
    """Two runs that stand at a node and show that the difference of two registers is no number; None if it is one."""
    if one == other:
        return None
    closure = Closure(field, [(at, one, other)])
    if closure.free is not None:
        run = closure.way_on(closure.free)
        return (run, run)
    return unequal_runs(closure)


def run_apart(field, at, one, other, number):
    """A run that stands at a node and on which the difference of two registers is not this number.

    There is one: the difference at the node is not this number.
    """
    for run in unlike_runs(field, at, one, other) or ():
        if difference_along(field, run, one, other) != number:
            return run
    return field.graph.run_to(at)


def unequal_runs(closure):
    """Two runs on which the difference that is asked is not the same, None if there are none.

    On all runs the registers have one source. The number of a state is what is added from there to the asked one.
    """
    graph = closure.graph
    numbers = {closure.order[0]: 0}
    first = None
    for state in closure.order:
        for ahead, point, number in closure.entrances[state]:
            total = numbers[state] + number
            if ahead is None:
                if first is None:
                    first = (total, graph.run_to(point) + closure.way_on(state))
                elif first[0] != total:
                    return (first[1], graph.run_to(point) + closure.way_on(state))
            elif ahead not in numbers:
                numbers[ahead] = total
            elif numbers[ahead] != total:
                run = graph.run_to(point)
                return (run + closure.way_on(ahead)[1:], run + closure.way_on(state))
    return None
