"""The shortest ways from the making that begins to those that are made, and the preambles along them."""

from takenup.blocks import Block, Home, Move, Touch
from takenup.making import by_units, changed_at, grade_behind, is_made_state, next_states
from takenup.preambles import Preamble
from takenup.standing import LENGTHS, Standing
from takenup.sums import Sum
from takenup.word_rows import NUMBERS

KIND_NUMBERS = {(True, True): 635, (True, False): 5, (False, True): 127, (False, False): 1}


class Routes:
    """The makings of targets with these sums, each as a state, in the order of how many entries lead there.

    The same routes serve all targets with these sums, whatever number words they say.
    """

    def __init__(self, zeros, sums):
        self.zeros = zeros
        self.goals = sums
        self.origins = {}
        self.entries = {}
        self.queue = []
        self.ended = []
        self.done = 0
        begin = ((None,) * NUMBERS, ("away",) * len(sums))
        self.origins[begin] = None
        self.enter(begin, 0)

    def enter(self, state, many):
        """Notes a state that is reached for the first time, by so many entries."""
        self.entries[state] = many
        self.queue.append(state)
        if all([grade == "there" for grade in state[1]]):
            self.ended.append(state)

    def go_on(self):
        """Follows the next state that was not followed yet."""
        state = self.queue[self.done]
        self.done += 1
        many = self.entries[state] + 1
        for after in next_states(self.zeros, self.goals, state):
            if after not in self.entries:
                self.origins[after] = state
                self.enter(after, many)

    def made_state(self, needed):
        """The first state that is made for a row of number words."""
        looked = 0
        while True:
            while looked < len(self.ended):
                state = self.ended[looked]
                if is_made_state(needed, state):
                    return state
                looked += 1
            self.go_on()

    def states_to(self, state):
        """The list of the states along which a state was first reached."""
        states = []
        while state is not None:
            states.append(state)
            state = self.origins[state]
        return states[::-1]


def kind_sum(told):
    """A sum of the same kind: the states that it goes through, and by how many entries, are the same."""
    source = told.source if told.source.startswith("z") else "o"
    if told.number == 0:
        return Sum(source)
    return Sum(source, KIND_NUMBERS[(told.number % LENGTHS["fine"] == 0, told.number % LENGTHS["coarse"] == 0)])


def preamble_along(target, states):
    """The preamble that makes a target along states, with an entry for each, beside those for the plain words."""
    said = {"way": "rapid"} if len(target.axes) > 0 else {}
    blocks = []
    for one, other in zip(states[:-1], states[1:]):
        at = changed_at(one[0], other[0])
        if at is not None:
            said[Standing.NUMBER_NAMES[at]] = other[0][at]
        else:
            deed = deed_between(target.pairs, one, other)
            blocks.append(Block(Standing(**said), deed))
            said = {}
    for name, value in target.words.plain_words:
        if name != "way" or value != "rapid" or len(target.axes) == 0:
            said[name] = value
    if len(said) > 0:
        blocks.append(Block(Standing(**said)))
    return Preamble(*blocks)


def deed_between(pairs, one, other):
    """The deed that brings an axis on its way from a state to another one."""
    row, grades = one
    at = changed_at(grades, other[1])
    axis, told = pairs[at]
    ahead, behind = grades[at], other[1][at]
    if not told.source.startswith("z") and (behind == "base" or told.number == 0):
        return Home(axis) if told.source == "o" else Touch(axis)
    numbers = {axis: moved_number(told.number, row, ahead, behind)}
    return Move(**numbers)


def moved_number(number, row, ahead, behind):
    """The number of the move by which an axis with this number goes from a grade to another one."""
    reading, unit, _ = row
    if behind == "base" or number == 0:
        return 0
    if reading == "on" and ahead != "base":
        return of_unit(by_units(number, unit), unit)
    if grade_behind(number, unit) == "there":
        return number // LENGTHS[unit]
    return of_unit(by_units(number, grade_behind(number, unit)), unit)


def of_unit(pair, unit):
    """The number of a unit out of the pair of those of fine and of coarse."""
    fine, coarse = pair
    return fine if unit == "fine" else coarse
