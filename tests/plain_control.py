"""A plain machine that does what a control does, with dicts and numbers, and tells which error is due."""

import copy

from plain_play import FIRST, do_block, marks_of_step
from takenup.alike import alike_at
from takenup.blocks import Block
from takenup.errors import (
    BadMachine, BadPreamble, BadProgram, BadStand, BadTarget, BadWords, NoAxis, NoPlace, Nothing, Running,
    Stopped, ToolError, TooMany,
)
from takenup.least import least_preamble
from takenup.preambles import Preamble
from takenup.programs import Program
from takenup.standing import Standing


def is_integer(value):
    return type(value) is int


def turns_of(step):
    return 0 if isinstance(step, Block) else step.count * (1 + sum(turns_of(item) for item in step))


class Due(Exception):
    """An error that is due."""

    def __init__(self, error):
        self.error = error


def due(condition, error):
    if condition:
        raise Due(error)


def copied(state):
    changing = {"words": dict(state["words"]), "numbers": copy.deepcopy(state["numbers"]), "rows": list(state["rows"])}
    return {**state, **changing}


class PlainControl:
    def __init__(self, program, machine, stand, words=None, start=None):
        self.machine = machine
        first = dict(FIRST) if words is None else dict(words)
        self.now = {
            "program": program, "place": program.starts[0] if start is None else start, "words": first,
            "numbers": {axis: stand.numbers(axis) for axis in machine.axes}, "broken": False, "rows": [],
            "pure": first == FIRST,
        }
        self.before, self.behind = [], []

    def twin(self):
        twin = copy.copy(self)
        twin.now = copied(self.now)
        twin.before, twin.behind = [[copied(one) for one in states] for states in (self.before, self.behind)]
        return twin

    def act(self, name, *args, **more):
        """Does an act; returns what it returns, or the error that is due, which changes nothing."""
        kept = copied(self.now)
        try:
            result = getattr(self, name)(*args, **more)
        except Due as caught:
            self.now = kept
            return caught.error
        if name not in ("undo", "again"):
            self.before.append(kept)
            self.behind = []
        return result

    def undo(self):
        due(not self.before, Nothing())
        self.behind.append(self.now)
        self.now = self.before.pop()

    def again(self):
        due(not self.behind, Nothing())
        self.before.append(self.now)
        self.now = self.behind.pop()

    def need_step(self, place):
        now = self.now
        due(now["broken"], Stopped(now["place"]))
        due(now["place"] == now["program"].end, Nothing())
        due(not is_integer(place) or place not in now["program"].after(now["place"]), NoPlace(place))
        return now["program"][now["place"]]

    def zeros(self):
        return tuple(
            tuple(row[f"z{at}"] for at in range(self.machine.zeros)) for row in self.now["numbers"].values()
        )

    def step(self, place):
        step = self.need_step(place)
        due(turns_of(step) > 10000, TooMany("turns", 10000))
        marks = tuple(marks_of_step(self.now["words"], self.now["numbers"], step))
        self.now["rows"].append((self.now["place"], marks, self.zeros()))
        self.now["place"] = place
        return marks

    def leap(self, place):
        """For few turns only: these are played."""
        step = self.need_step(place)
        marks_of_step(self.now["words"], self.now["numbers"], step)
        self.now["rows"].append((self.now["place"], None, self.zeros()))
        self.now["place"] = place

    def break_off(self, words=None, **positions):
        due(words is not None and not self.is_full(words), BadWords("words"))
        for axis in positions:
            due(axis not in self.machine.axes, NoAxis(axis))
        for axis in self.machine.axes:
            due(axis in positions and not is_integer(positions[axis]), BadStand(axis))
        for axis, number in positions.items():
            self.now["numbers"][axis]["p"] = number
        if words is not None:
            self.now["words"] = dict(words)
        self.now["broken"], self.now["pure"] = True, False

    def is_full(self, words):
        return isinstance(words, Standing) and len(words) == 7 and words.zero < self.machine.zeros

    def take_up(self, preamble, many=None):
        due(not self.now["broken"], Running(self.now["place"]))
        due(not isinstance(preamble, Preamble), BadPreamble(0))
        for at, block in enumerate(preamble.blocks):
            due(not block.fits(self.machine), BadPreamble(at))
        due(many is not None and not (is_integer(many) and 0 <= many <= len(preamble.blocks)), BadTarget("many"))
        for block in preamble.blocks[:many]:
            do_block(self.now["words"], self.now["numbers"], block)
        self.now["broken"] = many is not None

    def resume(self):
        due(not self.now["broken"], Running(self.now["place"]))
        told = least_preamble(self.now["program"], self.machine, self.now["place"])
        due(not told, BadTarget("refused"))
        self.take_up(told.preamble)
        return told.preamble

    def go_over(self, other):
        now = self.now
        due(now["broken"], Stopped(now["place"]))
        due(not isinstance(other, Program), BadProgram("program"))
        due(not all(block.fits(self.machine) for block in other.blocks), BadMachine("fit"))
        due(other.shape != now["program"].shape, BadProgram("shape"))
        due(not now["pure"] or not self.is_alike(other), BadProgram("alike"))
        now["program"], now["pure"] = other, False

    def is_alike(self, other):
        now = self.now
        try:
            return bool(alike_at(now["program"], self.machine, other, now["place"], Standing(**now["words"])))
        except TooMany:
            return False


def compare(test, plain, control):
    """Every attribute of a control is as the plain one says."""
    now = plain.now
    places = tuple(row[0] for row in now["rows"])
    test.assertEqual((now["program"], plain.machine), (control.program, control.machine))
    test.assertEqual((now["place"], places + (now["place"],)), (control.place, control.run))
    test.assertIs(tuple, type(control.run))
    test.assertEqual(now["numbers"], {axis: control.stand.numbers(axis) for axis in plain.machine.axes})
    test.assertIs(now["broken"], control.is_broken)
    test.assertEqual(None if now["broken"] else Standing(**now["words"]), control.words)
    test.assertEqual(len(now["rows"]), len(control.tape))
    for (place, marks, zeros), row in zip(now["rows"], control.tape):
        test.assertEqual((place, zeros), (row.place, row.zeros))
        test.assertEqual(marks, None if row.marks is None else tuple(mark.parts for mark in row.marks))


def check_act(test, plain, control, name, *args, **more):
    """Does an act with both; they return, or raise, the same. Returns the plain one's result."""
    told = plain.act(name, *args, **more)
    if isinstance(told, ToolError):
        work = getattr(control, name)
        test.check_error(type(told), vars(told), work, *args, **more)
    else:
        result = getattr(control, name)(*args, **more)
        if name == "step":
            test.assertIs(tuple, type(result))
            test.assertEqual(told, tuple(mark.parts for mark in result))
        else:
            test.assertEqual(told, result)
    compare(test, plain, control)
    return told


