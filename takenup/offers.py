"""Which sums a taken-up machine can have on an axis, and where it parts if it has none."""

from takenup.asking import Asking
from takenup.graph import node_graph
from takenup.ground import NodeField
from takenup.pairfield import Opening, PairField, pair_graph
from takenup.sides import run_against
from takenup.standing import Standing
from takenup.sums import Sum
from takenup.ties import difference
from takenup.uses import used_places
from takenup.word_rows import NUMBERS, node_row, number_row


class Offers:
    """What is wanted from some places on, whatever number words hands leave there.

    An offer is None if the axis goes on alike from all nodes of a place when it is left; otherwise the dict of the
    number of each kept register, by its index, whose sum with this number lets it go on alike, perhaps of none.
    """

    def __init__(self, program, machine, places, axes):
        left = Standing()
        self.machine = machine
        self.base = node_graph(program)
        self.graph = pair_graph(program, program, None, pin_rows(program))
        self.others = [number_row(words) for words in left.fillings(machine)]
        self.nodes_at = {place: [] for place in places}
        self.opened = {}
        for at, (place, row) in enumerate(list(self.base.points)):
            if place in self.nodes_at:
                self.nodes_at[place].append(at)
                for other in self.others:
                    self.opened[(at, other)] = self.graph.enter(place, row + other)
        self.graph.explore()
        self.grounds = {axis: NodeField(self.base, machine, axis) for axis in axes}
        self.ties = {axis: self.grounds[axis].all_ties() for axis in axes}
        self.askings = {axis: Asking(PairField(self.graph, program, machine, axis)) for axis in axes}
        self.offers = {}

    def offer_at(self, place, other, axis):
        """The offer of an axis at a place for a row of the other machine's number words."""
        key = (place, other, axis)
        if key not in self.offers:
            self.offers[key] = self.made_offer(place, other, axis)
        return self.offers[key]

    def made_offer(self, place, other, axis):
        """The same, made anew."""
        offer = None
        for at in self.nodes_at[place]:
            ties = self.ties[axis][at]
            for (one, another), number, _ in self.asked_at(at, other, axis):
                if another == 0:
                    offer = common_offer(offer, sums_that_meet(ties, one, number))
                elif difference(ties, one, another) != number:
                    return {}
        return offer

    def asked_at(self, at, other, axis):
        """What is wanted on an axis at a node, with a row of the other machine's words: pairs, numbers and keys."""
        return self.askings[axis].rows_at(self.opened[(at, other)])

    def options_at(self, place, words, axis):
        """The options of an axis for number words and all their fillings."""
        offer = None
        for filling in words.fillings(self.machine):
            offer = common_offer(offer, self.offer_at(place, number_row(filling), axis))
        if offer is None:
            return (None,)
        names = self.machine.registers
        return tuple([Sum(names[at], offer[at]) for at in range(1, len(names)) if at in offer])

    def partings_at(self, place, other, axis):
        """Where the machines part on an axis that has no option, each as run, run on, inside and what.

        First if the axis is left; then, if it is the position that is wanted to be a sum there, with the only sum of
        each kept register that would do there.
        """
        openings = [Opening(None, at, None, self.ties[axis][at]) for at in self.nodes_at[place]]
        opening, pair, number, key = self.first_unmet(openings, other, axis)
        first = self.parting_of(opening, pair, number, key, axis)
        if pair[1] != 0:
            return [first]
        effect, _ = self.grounds[axis].effect_along(first[0])
        source, base = effect[pair[0]]
        partings = [first]
        for at, (kept_source, added) in enumerate(effect):
            if at > 0 and kept_source == source:
                held = (at, base - added - number)
                openings = [Opening(None, node, held, self.ties[axis][node]) for node in self.nodes_at[place]]
                unmet = self.first_unmet(openings, other, axis)
                partings.append(self.parting_of(*unmet, axis))
        return partings

    def first_unmet(self, openings, other, axis):
        """The first opening at which a want is not met, with the pair, the number and the key of the want."""
        many = len(self.machine.registers)
        for opening in openings:
            for pair, number, key in self.asked_at(opening.node, other, axis):
                if difference(opening.ties, pair[0], many + pair[1]) != number:
                    return opening, pair, number, key
        return None

    def parting_of(self, opening, pair, number, key, axis):
        """Run, run on, inside and what of a want that is not met at an opening."""
        run = run_against(self.grounds[axis], opening, pair, number)
        run_on, inside, what = self.askings[axis].spot_of(key)
        return (run, run_on, inside, what)


def pin_rows(program):
    """For each place a value for each word of pair nodes that is not used there, whose value so means nothing."""
    used = [used_places(program, name) for name in Standing.NODE_NAMES]
    first = node_row(Standing.first())
    rows = []
    for place in range(program.end + 1):
        pins = tuple([None if is_used[place] else value for is_used, value in zip(used, first)])
        rows.append(pins + pins[:NUMBERS])
    return rows


def common_offer(one, other):
    """What both offers have in common."""
    if one is None:
        return other
    if other is None:
        return one
    return {at: one[at] for at in one if other.get(at) == one[at]}


def sums_that_meet(ties, one, number):
    """The dict of the number of each kept register whose sum as position meets a want of it with another register."""
    found = {}
    for at in range(1, len(ties)):
        apart = difference(ties, one, at)
        if apart is not None:
            found[at] = apart - number
    return found
