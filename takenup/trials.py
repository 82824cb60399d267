"""Trials: acts of a control behind which it is as if they had not been done."""

from takenup.controls import Control
from takenup.errors import BadControl


class Kept:
    """How a control was when a trial began, and what was kept when the trials around it began."""

    def __init__(self, control, below):
        self.story = control.story
        self.plan = control.plan
        self.place = control.place
        self.run = control.run
        self.stand = control.stand
        self.is_broken = control.is_broken
        self.words = control.words
        self.below = below


class Trial:
    """Puts a control back behind a block."""

    def __init__(self, control):
        need_control(control)
        self.held = control
        self.kept = None

    def __enter__(self):
        held = self.held
        self.kept = Kept(held, self.kept)
        held.story = held.story.copied()
        return held

    def __exit__(self, kind, value, trace):
        held = self.held
        held.story = self.kept.story
        held.plan = self.kept.plan
        held.place = self.kept.place
        held.run = self.kept.run
        held.stand = self.kept.stand
        held.is_broken = self.kept.is_broken
        held.words = self.kept.words
        self.kept = self.kept.below


def need_control(control):
    """Refuses any value that is no control."""
    if not isinstance(control, Control):
        raise BadControl("control")


def tried(control, work):
    """What a function returns of a control, in a trial."""
    with Trial(control) as held:
        return work(held)


def both(control, one, other):
    """The pair of the tapes behind one function and behind another one, each in a trial of its own."""
    return (tape_tried(control, one), tape_tried(control, other))


def tape_tried(control, work):
    """The tape of a control behind a function of it, in a trial."""
    with Trial(control) as held:
        work(held)
        return held.tape
