"""What becomes of a register, or of a difference of two, when a shift is joined with itself again and again."""

from takenup.checks import is_integer
from takenup.errors import BadMap, BadPaper
from takenup.maps import Shift
from takenup.papers import Paper


class Rounds(Paper):
    """Behind lead turns the sources come again in a cycle of this length, each time with this gain."""

    def __init__(self, lead, length, gain):
        Paper.__init__(self, "rounds", lead, length, gain)
        self.lead, self.length, self.gain = self.parts

    def folded(self, count):
        """The few turns behind which the source is that behind count turns, and by how much more the number is."""
        if not is_integer(count) or count < 0:
            raise BadPaper("count")
        if count < self.lead:
            return (count, 0)
        beyond = count - self.lead
        return (self.lead + beyond % self.length, self.gain * (beyond // self.length))


def rounds(shift, name):
    """The Rounds of a register."""
    need_shift(shift)
    told = shift[name]
    source, number = told.source, told.number
    numbers = {name: 0}
    while source not in numbers:
        numbers[source] = number
        told = shift[source]
        source, number = told.source, number + told.number
    lead = list(numbers).index(source)
    return Rounds(lead, len(numbers) - lead, number - numbers[source])


def pair_rounds(shift, one, other):
    """The Rounds of the difference of two registers."""
    need_shift(shift)
    shift.pulled(one, other)
    pair, number = pair_key(one, other), 0
    numbers = {}
    while pair not in numbers:
        numbers[pair] = number
        one, other, more = shift.pulled(one, other)
        pair, number = pair_key(one, other), number + more
    lead = list(numbers).index(pair)
    return Rounds(lead, len(numbers) - lead, number - numbers[pair])


def need_shift(shift):
    """Refuses any value that is no shift."""
    if not isinstance(shift, Shift):
        raise BadMap("shift")


def pair_key(one, other):
    """The pair of two registers; all pairs of a register with itself are one."""
    return ("same", "same") if one == other else (one, other)
