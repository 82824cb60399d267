"""Taking up at a place: the choices of words, the least target, or why none serves."""

from takenup.needs import need_both, need_place
from takenup.offers import Offers
from takenup.pairs import Parting
from takenup.papers import Denial, Paper
from takenup.serving import served_at
from takenup.standing import Standing, values_of
from takenup.targets import Target
from takenup.uses import uses, wanted
from takenup.word_rows import number_row


class Choice(Paper):
    """Number words that can be said at a place, and the options of each axis for them."""

    def __init__(self, words, options):
        Paper.__init__(self, "choice", words, options)
        self.words, self.options = self.parts


class TakenUp(Paper):
    """A target, and the Served that shows that it serves."""

    def __init__(self, target, served):
        Paper.__init__(self, "takenup", target, served)
        self.target, self.served = self.parts


class RefusedWord(Denial):
    """A plain word that is wanted with two values."""

    def __init__(self, name, one, other):
        Denial.__init__(self, "refusedword", name, one, other)
        self.name, self.one, self.other = self.parts


class Refused(Denial):
    """For all number words an axis that has no option, and where it parts."""

    def __init__(self, rows):
        Denial.__init__(self, "refused", rows)
        self.rows = self.parts[0]


class RefusedRow(Paper):
    """An axis that has no option for number words, and Partings that leave it none."""

    def __init__(self, words, axis, partings):
        Paper.__init__(self, "refusedrow", words, axis, partings)
        self.words, self.axis, self.partings = self.parts


def choices(program, machine, place):
    """Yields the choices, those that say fewer words first."""
    need_both(program, machine)
    need_place(program, place)
    offers = Offers(program, machine, (place,), machine.axes)
    for words, told in offered(program, machine, offers, place):
        yield Choice(words, told)


def choosable_words(program, machine, place):
    """The list of what number words that are used at a place can say, fewer words first."""
    used = uses(program, place)
    values = [choosable_values(used, name, machine) for name in Standing.NUMBER_NAMES]
    held = [
        Standing(reading=reading, unit=unit, zero=zero)
        for reading in values[0] for unit in values[1] for zero in values[2]
    ]
    return [words for many in range(4) for words in held if len(words) == many]


def choosable_values(used, name, machine):
    """None and the values of a word that is used, None alone for another one."""
    return (None, *values_of(name, machine)) if name in used else (None,)


def options_for(offers, place, words):
    """The tuple of the options of each axis for number words, None if an axis has none."""
    found = tuple([offers.options_at(place, words, axis) for axis in offers.machine.axes])
    return found if all([len(told) > 0 for told in found]) else None


def take_up(program, machine, place):
    """The least target with what shows that it serves, or why none does."""
    need_both(program, machine)
    need_place(program, place)
    refused = refused_word(program, place)
    if refused is not None:
        return refused
    offers = Offers(program, machine, (place,), machine.axes)
    found = offered(program, machine, offers, place)
    if len(found) == 0:
        return refusal(offers, place)
    target = least_target(machine, wanted_words(program, place), found)
    return TakenUp(target, served_at(program, machine, place, target))


def refused_word(program, place):
    """The RefusedWord of the first plain word that is wanted with two values, None if there is none."""
    for name in Standing.PLAIN_NAMES:
        values = wanted(program, place, name)
        if len(values) > 1:
            return RefusedWord(name, values[0], values[1])
    return None


def refusal(offers, place):
    """The Refused of a place that has no choice."""
    left = Standing()
    return Refused([refused_row(offers, place, words) for words in left.fillings(offers.machine)])


def offered(program, machine, offers, place):
    """The list of the choices of a place, each as its words and the tuple of the options of each axis."""
    found = []
    for words in choosable_words(program, machine, place):
        told = options_for(offers, place, words)
        if told is not None:
            found.append((words, told))
    return found


def wanted_words(program, place):
    """The Standing of the plain words that are wanted at a place, none of them with two values."""
    plain = {}
    for name in Standing.PLAIN_NAMES:
        for value, _, _ in wanted(program, place, name):
            plain[name] = value
    return Standing(**plain)


def least_target(machine, plain, found):
    """The least target by the choices that were found, which says these plain words."""
    targets = {}
    for words, told in found:
        target = target_of(machine, words | plain, told)
        targets[str(target)] = target
    fewest_entries = min([len(target) for target in targets.values()])
    return targets[min([str(text) for text in targets if len(targets[text]) == fewest_entries])]


def target_of(machine, words, told):
    """The target that says these words and has for each axis the option with the least text."""
    sums = {}
    for axis, options_told in zip(machine.axes, told):
        texts = {str(option): option for option in options_told if option is not None}
        if len(texts) > 0:
            sums[axis] = texts[min([str(text) for text in texts])]
    return Target(words, **sums)


def refused_row(offers, place, words):
    """The RefusedRow of number words for which an axis has no option."""
    row = number_row(words)
    for axis in offers.machine.axes:
        if offers.offer_at(place, row, axis) == {}:
            partings = [Parting(*parting) for parting in offers.partings_at(place, row, axis)]
            return RefusedRow(words, axis, partings)
    return None


def takeable(program, machine):
    """Yields the places that can be taken up, ascending."""
    need_both(program, machine)
    places = [place for place in range(program.end + 1) if is_wanted_alike(program, place)]
    offers = Offers(program, machine, places, machine.axes)
    for place in places:
        if has_choice(offers, place):
            yield place


def is_wanted_alike(program, place):
    """Whether no plain word is wanted with two values."""
    return all([len(wanted(program, place, name)) < 2 for name in Standing.PLAIN_NAMES])


def has_choice(offers, place):
    """Whether a place has a choice.

    Words that are not used mean nothing, so there is a choice if there are options when all number words are said.
    """
    for row in offers.others:
        if all([offers.offer_at(place, row, axis) != {} for axis in offers.machine.axes]):
            return True
    return False
