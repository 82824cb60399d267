"""How many cuts there are since the last visit at a place."""

from takenup.errors import BadWords, NoPlace
from takenup.needs import need_place, need_program
from takenup.papers import Denial, Paper
from takenup.places import first_run_to, last_visit, need_other_place, need_run
from takenup.rising import Heights
from takenup.stepping import need_step
from takenup.stretches import WAYS, Stretches, cuts_from, cuts_in


class Cuts(Paper):
    """The greatest number of cuts, a run whose stretch has it, and how many there are at most on the way."""

    def __init__(self, number, run, rows):
        Paper.__init__(self, "cuts", number, run, rows)
        self.number, self.run, self.rows = self.parts


class Endless(Denial):
    """A run, a ring that adds cuts each time, and a run on to the place."""

    def __init__(self, run, ring, on):
        Denial.__init__(self, "endless", run, ring, on)
        self.run, self.ring, self.on = self.parts


def cuts_of(step, way):
    """How many cuts a step has with this way ahead of it, and the way behind it."""
    need_step(step)
    if not isinstance(way, str) or way not in WAYS:
        raise BadWords("way")
    return cuts_in(step, way)


def run_cuts(program, run, other):
    """How many cuts the stretch of a run has since its last visit at a place."""
    need_program(program)
    places = need_run(program, run)
    visit = last_visit(places, other)
    if visit is None:
        raise NoPlace(other)
    return cuts_from(program, places, visit)


def most_cuts(program, place, other):
    """The greatest number of cuts since other as a Cuts, an Endless if there is none, None if no run has been there."""
    need_program(program)
    need_place(program, place)
    need_other_place(program, place, other)
    stretches = Stretches(program, place, other)
    points = stretches.graph.points
    found = Heights(stretches)
    if found.ring is not None:
        first = found.ring[0]
        ring = tuple([points[at][0] for at in found.ring])
        return Endless(stretches.run_into(first), ring, first_run_to(program, place, ring[:1], other))
    ends = [at for at in stretches.order if points[at][0] == place and at in found.heights]
    if len(ends) == 0:
        return None
    number = max([int(found.heights[at]) for at in ends])
    highest = [at for at in ends if found.heights[at] == number][0]
    states, begin = found.states_to(highest)
    return Cuts(number, stretches.run_along(begin, states), rows_of_heights(stretches, other, found.heights))


def rows_of_heights(stretches, other, heights):
    """The rows of all places and ways, in their order."""
    known = stretches.graph.known
    rows = []
    for place in range(stretches.graph.plan.end + 1):
        for way in WAYS:
            at = known.get((place, (way,)))
            if at is not None:
                rows.append((place, way, 0 if place == other else heights.get(at)))
    return tuple(rows)
