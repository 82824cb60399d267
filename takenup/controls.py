"""Controls: programs carried out on a machine, with numbers, with breaks and preambles in between."""

from takenup.alike import Alike, alike_at
from takenup.checks import is_within
from takenup.errors import BadPreamble, BadProgram, BadStand, BadTarget, BadWords, NoPlace, Nothing, Running, Stopped
from takenup.errors import TooMany
from takenup.least import Least, least_preamble
from takenup.needs import is_place, need_both, need_fit, need_program
from takenup.preambles import Preamble, need_fitting_blocks
from takenup.runs import Player, far, is_full_for
from takenup.standing import Standing
from takenup.stands import Stand
from takenup.stepping import MOST_TURNS, first_if_none, turns
from takenup.story import Moment, Story
from takenup.tapes import Row, Tape


class Control:
    """Carries out a program on a machine."""

    def __init__(self, program, machine, stand, words=None, start=None):
        need_both(program, machine)
        if not isinstance(stand, Stand) or stand.machine != machine:
            raise BadStand("stand")
        if words is not None and not is_full_for(machine, words):
            raise BadWords("words")
        if start is not None and not (is_place(program, start) and start in program.starts):
            raise NoPlace(start)
        held = first_if_none(words)
        place = program.starts[0] if start is None else start
        self.machine = machine
        self.story = Story([Moment(program, place, stand, held, False, held == Standing.first())], 0, [], [], [0])
        show_moment(self)

    @property
    def program(self):
        """The program that is carried out."""
        return self.plan

    @program.setter
    def program(self, value):
        self.go_over(value)

    @property
    def tape(self):
        """The rows of the steps that were done."""
        rows = self.story.rows_done()
        return Tape(*rows)

    def step(self, place):
        """Does the step of the control's place, goes on to a next one, and returns the marks."""
        step = step_ahead(self, place)
        if turns(step) > MOST_TURNS:
            raise TooMany("turns", MOST_TURNS)
        now = self.story.moment()
        player = Player(self.machine, now.stand, now.words)
        player.do_step(step)
        played = player.played_so_far()
        row = Row(now.place, played.marks, played.stand.zeros)
        self.story.take_in(now.behind(place, played.stand, played.words), row)
        show_moment(self)
        return played.marks

    def leap(self, place):
        """Does the step likewise, for any number of turns, without marks."""
        step_ahead(self, place)
        now = self.story.moment()
        stand, words = far(now.plan, self.machine, (now.place, place), now.stand, now.words)
        row = Row(now.place, None, stand.zeros)
        self.story.take_in(now.behind(place, stand, words), row)
        show_moment(self)

    def break_off(self, words=None, **positions):
        """A break: hands put positions and words as they like."""
        if words is not None and not is_full_for(self.machine, words):
            raise BadWords("words")
        now = self.story.moment()
        stand = now.stand.with_positions(**positions)
        self.story.take_in(now.broken(stand, now.words if words is None else words, True), None)
        show_moment(self)

    def take_up(self, preamble, many=None):
        """Does the blocks of a preamble, and is running again; or just so many of them, and stays broken."""
        if not self.is_broken:
            raise Running(self.place)
        if not isinstance(preamble, Preamble):
            raise BadPreamble(0)
        need_fitting_blocks(self.machine, preamble.blocks)
        if many is not None and not is_within(many, 0, len(preamble.blocks)):
            raise BadTarget("many")
        now = self.story.moment()
        blocks = preamble.blocks if many is None else preamble.blocks[:many]
        part = Preamble(*blocks)
        stand, words = part.made(self.machine, now.stand, now.words)
        self.story.take_in(now.broken(stand, words, many is not None), None)
        show_moment(self)

    def resume(self):
        """Takes up by a preamble with the fewest entries, and returns it."""
        if not self.is_broken:
            raise Running(self.place)
        told = least_preamble(self.plan, self.machine, self.place)
        if not isinstance(told, Least):
            raise BadTarget("refused")
        self.take_up(told.preamble)
        return told.preamble

    def go_over(self, other):
        """Goes on with another program."""
        if self.is_broken:
            raise Stopped(self.place)
        need_program(other)
        need_fit(other.blocks, self.machine)
        if other.shape != self.plan.shape:
            raise BadProgram("shape")
        now = self.story.moment()
        if not now.is_pure or not is_alike_from(now, self.machine, other):
            raise BadProgram("alike")
        self.story.take_in(now.gone_over(other), None)
        show_moment(self)

    def undo(self):
        """Takes back the latest act that still stands."""
        if not self.story.go_back():
            raise Nothing()
        show_moment(self)

    def again(self):
        """Does the act once more that was taken back last."""
        if not self.story.go_forth():
            raise Nothing()
        show_moment(self)

    def twin(self):
        """A control in the same state, with the same acts done and taken back."""
        first = self.story.moments[0]
        twin = Control(first.plan, self.machine, first.stand, first.words, first.place)
        twin.story = self.story.copied()
        show_moment(twin)
        return twin


def show_moment(control):
    """Sets the attributes that tell how a control is now."""
    now = control.story.moment()
    control.plan = now.plan
    control.place = now.place
    control.run = (*control.story.places_done(), now.place)
    control.stand = now.stand
    control.is_broken = now.is_broken
    control.words = None if now.is_broken else now.words


def step_ahead(control, place):
    """The step that a control does next, if it can do it and go on to any value as a place."""
    if control.is_broken:
        raise Stopped(control.place)
    program = control.plan
    if control.place == program.end:
        raise Nothing()
    if not is_place(program, place) or place not in program.after(control.place):
        raise NoPlace(place)
    return program[control.place]


def is_alike_from(now, machine, other):
    """Whether another program does the same from a moment on; if it would be too long to tell, it does not."""
    try:
        return isinstance(alike_at(now.plan, machine, other, now.place, now.words), Alike)
    except TooMany:
        return False
