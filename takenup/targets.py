"""Targets: the words, and the sums of kept registers, with which a machine is taken up."""

from takenup.cursor import Cursor
from takenup.errors import BadTarget, NoAxis
from takenup.machines import Machine, is_axis, need_machine
from takenup.standing import Standing, take_words, word_texts
from takenup.sums import Sum, take_kept_sum


class Target:
    """Some standing words, and for some axes a sum of a kept register."""

    def __init__(self, words=None, **sums):
        if words is not None and not isinstance(words, Standing):
            raise BadTarget("words")
        for axis in sums:
            if not is_axis(axis):
                raise NoAxis(axis)
        pairs = [(axis, sums[axis]) for axis in Machine.AXES if axis in sums]
        for axis, told in pairs:
            if not isinstance(told, Sum) or told.source == "p":
                raise BadTarget(axis)
        self.words = Standing() if words is None else words
        self.pairs = tuple(pairs)
        self.axes = tuple([axis for axis, _ in pairs])
        self.entries = word_texts(self.words) + self.axes

    @property
    def sums(self):
        """The dict of each axis with a sum, in order, to its Sum."""
        return dict(self.pairs)

    def __len__(self):
        return len(self.entries)

    def sum_of(self, axis):
        """The Sum of an axis, None if it is left."""
        if not is_axis(axis):
            raise NoAxis(axis)
        return dict(self.pairs).get(axis)

    def __or__(self, other):
        need_target(other)
        words = self.words | other.words
        sums = dict(self.pairs + other.pairs)
        return Target(words, **sums)

    def is_part_of(self, other):
        """Whether the other target says each word that this one says, alike, and has each sum that this one has."""
        need_target(other)
        return self.words.is_part_of(other.words) and all([pair in other.pairs for pair in self.pairs])

    def fits(self, machine):
        """Whether the machine has the axes, the zero and the zeros of the sums."""
        need_machine(machine)
        if not self.words.fits(machine):
            return False
        return all([axis in machine and told.source in machine.registers for axis, told in self.pairs])

    def __eq__(self, other):
        return isinstance(other, Target) and self.words == other.words and self.pairs == other.pairs

    def __str__(self):
        return f"{self.words} ; {sums_text(self.pairs)}"

    @staticmethod
    def read(text):
        """The target with this text."""
        cursor = Cursor(text)
        words = take_words(cursor)
        if len(words) == 0:
            cursor.need_word("-")
        cursor.need_word(";")
        sums = {}
        for axis in Machine.AXES:
            if cursor.take_if(axis):
                sums[axis] = take_kept_sum(cursor)
        if len(sums) == 0:
            cursor.need_word("-")
        cursor.need_end()
        return Target(words, **sums)


def need_target(other):
    """Refuses any value that is no Target."""
    if not isinstance(other, Target):
        raise BadTarget("other")


def need_a_target(target):
    """Refuses any value that is no Target, where it is asked for as such."""
    if not isinstance(target, Target):
        raise BadTarget("target")


def need_fitting_target(machine, target):
    """Refuses any value that is no Target, and a Target that does not fit the machine."""
    need_a_target(target)
    if not target.fits(machine):
        raise BadTarget("fit")


def sums_text(pairs):
    """The text of axes and their sums."""
    return " ".join([f"{axis} {told}" for axis, told in pairs]) or "-"
