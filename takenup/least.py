"""Preambles with the fewest entries: those that make a target, and those that serve a place."""

from takenup.machines import need_machine
from takenup.making import making_of, plain_entries, sums_of
from takenup.needs import need_both, need_place
from takenup.offers import Offers
from takenup.papers import Paper
from takenup.prices import cheapest_target
from takenup.routes import Routes, preamble_along
from takenup.serving import served_at
from takenup.takeups import offered, refusal, refused_word, wanted_words
from takenup.targets import need_fitting_target
from takenup.word_rows import number_row


class Made(Paper):
    """A preamble that makes a target, and the makings that show that no fewer entries lead to it."""

    def __init__(self, preamble, rows):
        Paper.__init__(self, "made", preamble, rows)
        self.preamble, self.rows = self.parts


class Least(Paper):
    """A preamble with the fewest entries of all that serve a place, and what shows that it serves."""

    def __init__(self, preamble, served):
        Paper.__init__(self, "least", preamble, served)
        self.preamble, self.served = self.parts


def fewest(machine, target):
    """A Made of a preamble with the fewest entries of all that make a target."""
    need_machine(machine)
    need_fitting_target(machine, target)
    routes = routes_for(machine, target)
    preamble = short_preamble(target, routes)
    rest = len(preamble) - plain_entries(target)
    found = routes.entries
    return Made(preamble, [(making_of(reached), found[reached]) for reached in found if found[reached] < rest])


def least_preamble(program, machine, place):
    """A Least of a preamble that serves a place, or why none does."""
    need_both(program, machine)
    need_place(program, place)
    refused = refused_word(program, place)
    if refused is not None:
        return refused
    offers = Offers(program, machine, (place,), machine.axes)
    found = offered(program, machine, offers, place)
    if len(found) == 0:
        return refusal(offers, place)
    target = cheapest_target(machine, wanted_words(program, place), found)
    return Least(short_preamble(target, routes_for(machine, target)), served_at(program, machine, place, target))


def routes_for(machine, target):
    """The routes to the sums of a target."""
    return Routes(machine.zeros, sums_of(target))


def short_preamble(target, routes):
    """A preamble with the fewest entries that makes a target."""
    state = routes.made_state(number_row(target.words))
    return preamble_along(target, routes.states_to(state))
