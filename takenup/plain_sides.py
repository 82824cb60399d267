"""Comparing the plain words of two machines that go along the same runs on."""

from takenup.graph import MOST_POINTS, WordGraph, said_rows
from takenup.spots import parted_plain
from takenup.standing import Standing
from takenup.word_rows import plain_row

PLAIN = 4


class PlainSides:
    """Two programs, and the plain pair nodes that come about from where it begins, until the machines part.

    The rows of words are the plain words of the first machine, then those of the other one. It begins with triples
    of a place and both rows. Parting is None if the machines agree at all plain spots; otherwise it is the place and
    the row of the first machine's words with which it begins, a run on, inside and what.
    """

    def __init__(self, program, second, begins):
        self.plan = program
        self.second = second
        self.graph = WordGraph(program, plain_pair_said(program, second), MOST_POINTS)
        self.parting = None
        for place, row, other in begins:
            self.graph.enter(place, row + other)
        self.compare()

    def compare(self):
        """Goes on until all plain pair nodes were compared, or the machines part."""
        at = 0
        while at < len(self.graph.points) and self.parting is None:
            self.compare_at(at)
            self.graph.followers_of(at)
            at += 1

    def compare_at(self, at):
        """Compares the machines in the steps at a plain pair node."""
        place, row = self.graph.points[at]
        if place == self.plan.end:
            return
        parted = parted_plain(self.plan[place], self.second[place], row[:PLAIN], row[PLAIN:])
        if parted is not None:
            inside, what = parted
            run_on = self.graph.run_to(at) + self.plan.after(place)[:1]
            begun, begun_row = self.graph.points[self.graph.begin_of(at)]
            self.parting = (begun, begun_row[:PLAIN], run_on, inside, what)


def plain_pair_said(program, second):
    """For each step the row of the plain words that both programs say, those of the first one ahead."""
    firsts = said_rows(program, Standing.PLAIN_NAMES)
    others = said_rows(second, Standing.PLAIN_NAMES)
    return [one + other for one, other in zip(firsts, others)]


class PlainRuns:
    """Finds runs that bring plain words to places.

    It goes back from the place with the words that are still needed: those of which no step behind says the value.
    So it needs no more keys than there are places and sets of plain words, however many plain words come about.
    """

    def __init__(self, program):
        self.plan = program
        self.said = said_rows(program, Standing.PLAIN_NAMES)
        self.aheads = [places_ahead(program, place) for place in range(program.end + 1)]

    def run_with(self, place, row):
        """A run that stands at a place and brings the row of plain words there, None if there is none."""
        first = plain_row(Standing.first())
        links = {(place, row): None}
        queue = [(place, row)]
        done = 0
        while done < len(queue):
            reached, needed = queue[done]
            if reached in self.plan.starts and is_met(needed, first):
                return places_along(links, queue[done])
            fresh = [key for key in self.keys_ahead(reached, needed) if key not in links]
            for key in fresh:
                links[key] = queue[done]
            queue.extend(fresh)
            done += 1
        return None

    def keys_ahead(self, place, needed):
        """The places ahead of a place whose steps say nothing but what is needed, with what is needed ahead of them."""
        aheads = [at for at in self.aheads[place] if is_met(needed, self.said[at], True)]
        return [(at, needed_ahead(needed, self.said[at])) for at in aheads]


def places_ahead(program, place):
    """The places that a place can follow."""
    return [at for at in range(program.end) if place in program.after(at)]


def is_met(needed, row, can_be_left=False):
    """Whether a row has all needed values, or leaves some if it can."""
    met = [need is None or value == need or can_be_left and value is None for need, value in zip(needed, row)]
    return all(met)


def needed_ahead(needed, said):
    """What is needed ahead of a step that says this."""
    return tuple([need if value is None else None for need, value in zip(needed, said)])


def places_along(links, key):
    """The tuple of the places from a key along the links."""
    places = []
    while key is not None:
        places.append(key[0])
        key = links[key]
    return tuple(places)
