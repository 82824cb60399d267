"""Stretches: the runs on from the last visit at a place, with the cuts that they tell."""

from takenup.blocks import Block
from takenup.graph import WordGraph, enter_starts, said_rows
from takenup.places import steps_to
from takenup.standing import Standing

WAYS = ("rapid", "cut")


class Stretches:
    """The points, each a place and a way, to which stretches from another place lead on their way to a place.

    Order and entrances are told as a Closure tells them, with the cuts of the steps as numbers: an entrance without a
    point ahead leads from the other place. With each point it is known how many cuts the step there has.
    """

    def __init__(self, program, place, other):
        self.graph = WordGraph(program, said_rows(program, ("way",)))
        enter_starts(self.graph, (Standing.first().way,))
        points = self.graph.points
        leading = leading_places(program, place, other)
        self.cuts = [cuts_at(program, reached, way) for reached, (way,) in points]
        self.order = [at for at, (reached, _) in enumerate(points) if reached in leading and reached != other]
        is_inside = {at: True for at in self.order}
        aheads = self.graph.ahead_lists()
        self.entrances = {at: [] for at in self.order}
        for at in self.order:
            for ahead in aheads[at]:
                if points[ahead][0] == other:
                    self.entrances[at].append((None, ahead, self.cuts[ahead]))
                elif ahead in is_inside:
                    self.entrances[at].append((ahead, ahead, self.cuts[ahead]))

    def run_along(self, begin, points):
        """A run that stands at the point begin, and goes on along points."""
        return self.graph.run_to(begin) + tuple([self.graph.points[at][0] for at in points])

    def run_into(self, goal):
        """A run that has been at the other place and stands at a point, since then along the fewest points."""
        links = {goal: None}
        queue = [goal]
        done = 0
        while done < len(queue):
            at = queue[done]
            done += 1
            for ahead, begin, _ in self.entrances[at]:
                if ahead is None:
                    return self.run_along(begin, linked(links, at))
                if ahead not in links:
                    links[ahead] = at
                    queue.append(ahead)
        return None


def linked(links, at):
    """The list of what the links lead to, beginning with at."""
    found = []
    while at is not None:
        found.append(at)
        at = links[at]
    return found


def leading_places(program, place, other):
    """The places from which some run on leads to a place and is not at the other one behind its first place."""
    leading = {at: True for at in steps_to(program, place, other)}
    if any([after in leading for after in program.after(other)]):
        leading[other] = True
    return leading


def cuts_at(program, place, way):
    """How many cuts the step of a place has with this way ahead of it, none at the end."""
    return cuts_in(program[place], way)[0] if place < program.end else 0


def cuts_in(step, way):
    """How many cuts a block or a told has with this way ahead of it, and the way behind it."""
    if isinstance(step, Block):
        way = way if step.words.way is None else step.words.way
        return (1 if step.is_marking and way == "cut" else 0, way)
    many, way = cuts_in_turn(step, way)
    later, way = cuts_in_turn(step, way)
    return (many + later * (step.count - 1), way)


def cuts_in_turn(told, way):
    """How many cuts one turn of a told has with this way ahead of it, and the way behind it."""
    total = 0
    for item in told.members:
        many, way = cuts_in(item, way)
        total = total + many
    return (total, way)


def cuts_from(program, run, visit):
    """How many cuts the steps of a run tell from an index on."""
    way = Standing.first().way
    total = 0
    for at, place in enumerate(run[:-1]):
        many, way = cuts_in(program[place], way)
        total = total + many if at >= visit else 0
    return total
