"""Playing runs with numbers."""

from takenup.blocks import Block
from takenup.effects import StepEffects, change_of_block
from takenup.errors import BadStand, BadWords, TooMany
from takenup.marks import Mark
from takenup.needs import need_both
from takenup.papers import Paper
from takenup.places import need_run_on
from takenup.standing import Standing
from takenup.stands import Stand
from takenup.stepping import MOST_TURNS, first_if_none, turns
from takenup.word_rows import WAY, laid, said_by, words_of


class Played(Paper):
    """The stand and the words behind something that was played, and its marks."""

    def __init__(self, stand, words, marks):
        Paper.__init__(self, "played", stand, words, marks)
        self.stand, self.words, self.marks = self.parts


class Player:
    """A machine on which blocks are done, with a list of integers for each axis."""

    def __init__(self, machine, stand, words):
        self.machine = machine
        self.held = {axis: list(stand.numbers(axis).values()) for axis in machine.axes}
        self.row = words.row
        self.marks_told = []

    def do_step(self, step):
        """Does a block, or a told as often as its count tells."""
        if isinstance(step, Block):
            self.do_block(step)
            return
        for _ in range(step.count):
            for item in step.members:
                self.do_step(item)

    def do_block(self, block):
        """Does a block, and tells its mark."""
        self.row = laid(self.row, block.words.row)
        begins = self.positions_now()
        for axis in block.axes:
            numbers = self.held[axis]
            at, source, number = change_of_block(len(numbers), self.row, block, axis)
            numbers[at] = numbers[source] + number
        if block.is_marking:
            self.tell_mark(begins)

    def tell_mark(self, begins):
        """Tells the mark of a block ahead of which the positions were these."""
        way, tool, pace, spindle = self.row[WAY:]
        if way == "cut":
            self.marks_told.append(Mark(way, self.positions_now(), begins, tool, pace, spindle))
        else:
            self.marks_told.append(Mark(way, self.positions_now()))

    def positions_now(self):
        """The tuple of the positions."""
        return tuple([self.held[axis][0] for axis in self.machine.axes])

    def played_so_far(self):
        """The Played of all that was done since this was asked last."""
        marks = self.marks_told
        self.marks_told = []
        return Played(stand_of(self.machine, self.held), words_of(self.row, Standing.NAMES), marks)


def play(program, machine, run, stand, words=None):
    """Plays a run or a run on, and tells what is behind it."""
    places = need_playable(program, machine, run, stand, words)
    need_few_turns(program, places)
    player = Player(machine, stand, first_if_none(words))
    for place in places[:-1]:
        player.do_step(program[place])
    return player.played_so_far()


def steps_of(program, machine, run, stand, words=None):
    """Yields what is behind each step of a run or a run on, with its own marks."""
    places = need_playable(program, machine, run, stand, words)
    need_few_turns(program, places)
    player = Player(machine, stand, first_if_none(words))
    for place in places[:-1]:
        player.do_step(program[place])
        yield player.played_so_far()


def far(program, machine, run, stand, words=None):
    """The stand and the words behind a run or a run on, for any number of turns."""
    places = need_playable(program, machine, run, stand, words)
    said = [said_by(step) for step in program.steps]
    behind = first_if_none(words).row
    numbers = {}
    for axis in machine.axes:
        effect, row = StepEffects(program, machine, axis).of_run(places, first_if_none(words).row, said)
        held = list(stand.numbers(axis).values())
        numbers[axis] = [held[source] + number for source, number in effect]
        behind = row
    return (stand_of(machine, numbers), words_of(behind, Standing.NAMES))


def need_playable(program, machine, run, stand, words):
    """The run or run on as a tuple of places, if it can be played so."""
    need_both(program, machine)
    places = need_run_on(program, run)
    if not isinstance(stand, Stand) or stand.machine != machine:
        raise BadStand("stand")
    if words is not None and not is_full_for(machine, words):
        raise BadWords("words")
    return places


def is_full_for(machine, words):
    """Whether any value is a full Standing whose zero the machine has."""
    return isinstance(words, Standing) and words.is_full and words.fits(machine)


def need_few_turns(program, places):
    """Refuses more turns than are played."""
    many = [turns(step) for step in program.steps]
    if sum([many[place] for place in places[:-1]]) > MOST_TURNS:
        raise TooMany("turns", MOST_TURNS)


def stand_of(machine, numbers):
    """The Stand with these lists of integers."""
    table = {axis: dict(zip(machine.registers, numbers[axis])) for axis in machine.axes}
    return Stand(machine, **table)
