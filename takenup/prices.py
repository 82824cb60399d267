"""Which of the targets that serve a place is made by the fewest entries."""

from takenup.making import plain_entries, sums_of
from takenup.routes import Routes, kind_sum
from takenup.takeups import least_target
from takenup.targets import Target
from takenup.word_rows import number_row

MOST_AXES = 3


class Prices:
    """How many entries of the graph of makings are needed, with the routes kept by the kinds of the sums."""

    def __init__(self, zeros):
        self.zeros = zeros
        self.known = {}

    def entries_for(self, row, sums):
        """By how many entries these number words come to be said, and axes with these sums to be there."""
        kinds = tuple([kind_sum(told) for told in sums])
        key = tuple([(told.source, told.number) for told in kinds])
        if key not in self.known:
            self.known[key] = Routes(self.zeros, kinds)
        routes = self.known[key]
        return routes.entries[routes.made_state(row)]

    def price_of(self, target):
        """How many entries make a target."""
        return plain_entries(target) + self.entries_for(number_row(target.words), sums_of(target))

    def floor_of(self, target):
        """No more entries than make a target, found in a moment: those for one axis, and what others add at least."""
        row, sums = number_row(target.words), sums_of(target)
        floor = self.entries_for(row, ())
        added = sum([least_moves(told) for told in sums])
        for told in sums:
            alone = self.entries_for(row, (told,))
            floor = max(int(floor), int(alone + added - least_moves(told)))
        return plain_entries(target) + floor


def least_moves(told):
    """How many deeds bring an axis to a sum at least, whatever words are said."""
    kind = kind_sum(told)
    if kind.number == 0:
        return 1
    many = 2 if kind.number == 1 else 1
    return many if kind.source != "o" else many + 1


def cheapest_target(machine, plain, found):
    """A target with the fewest entries to make it, of those that say plain words and the words of a choice.

    Found are the choices, each as its words and the options of each axis. It is the least target, unless another one
    is made by fewer entries. Those that may need few come first, those with few registers ahead, so that most are never
    counted out.
    """
    prices = Prices(machine.zeros)
    best = least_target(machine, plain, found)
    fewest_entries = prices.price_of(best)
    targets = [target for words, told in found for target in targets_of(machine, words | plain, told)]
    floors = [prices.floor_of(target) for target in targets]
    ranks = [floor * (MOST_AXES + 1) + sources_in(one) for floor, one in zip(floors, targets)]
    for code in sorted([int(rank * len(targets) + at) for at, rank in enumerate(ranks)]):
        at = code % len(targets)
        if floors[at] >= fewest_entries:
            return best
        many = prices.price_of(targets[at])
        if many < fewest_entries:
            best, fewest_entries = targets[at], many
    return best


def sources_in(target):
    """How many registers the sums of a target have as their sources."""
    return len({told.source: True for told in sums_of(target)})


def targets_of(machine, words, told):
    """The list of the targets with these words and one option of each axis, of options of one kind just the first."""
    rows = [{}]
    for axis, options_told in zip(machine.axes, told):
        if options_told != (None,):
            rows = [{**row, axis: one} for row in rows for one in unlike_kinds(options_told)]
    return [target_with(words, row) for row in rows]


def target_with(words, sums):
    """The target with these words and this dict of sums."""
    return Target(words, **sums)


def unlike_kinds(sums):
    """The first sum of each kind; one alone if it is reached at once, by home or touch."""
    kinds = {}
    for told in sums:
        kind = kind_sum(told)
        kinds.setdefault((kind.source, kind.number), told)
    if ("o", 0) in kinds:
        return [kinds[("o", 0)]]
    return list(kinds.values())
