import copy
import random
import unittest

from kinds import Checks, any_values, is_integer, random_programs, wrong_values
from plain_play import FIRST, do_run, random_numbers
from takenup.blocks import Block, Here, Home, Lay, Move, Touch
from takenup.changed import exchanged, mirrored, rezeroed
from takenup.errors import BadProgram, BadWords, NoAxis
from takenup.items import Group, Round, Skip, Told
from takenup.machines import Machine
from takenup.places import runs_of
from takenup.programs import Program
from takenup.standing import Standing

AXES = ("x", "y", "w")
PROGRAMS = random_programs(41, 60, depth=4, axes=3, zeros=4)


def is_axis(value):
    return isinstance(value, str) and value in AXES


class ChangedTest(Checks, unittest.TestCase):
    def test_blocks(self):
        words = Standing(zero=1, way="cut")
        for kind in (Move, Here, Lay):
            block = Block(words, kind(x=3, w=-4))
            self.assertEqual(Block(words, kind(x=-3, w=-4)), mirrored(block, "x"))
            self.assertEqual(block, mirrored(block, "y"))
            self.assertEqual(Block(words, kind(y=3, w=-4)), exchanged(block, "x", "y"))
            self.assertEqual(Block(words, kind(w=3, x=-4)), exchanged(block, "w", "x"))
            self.assertEqual(block, exchanged(block, "w", "w"))
        for kind in (Home, Touch):
            block = Block(words, kind("x", "y"))
            self.assertEqual(block, mirrored(block, "x"))
            self.assertEqual(Block(words, kind("w", "y")), exchanged(block, "x", "w"))
        block = Block(words, Move(x=1))
        self.assertEqual(Block(Standing(zero=3, way="cut"), Move(x=1)), rezeroed(block, 1, 3))
        self.assertEqual(Block(Standing(zero=3, way="cut"), Move(x=1)), rezeroed(block, 3, 1))
        self.assertEqual(block, rezeroed(block, 0, 2))
        self.assertEqual(Block(None, Move(x=1)), rezeroed(Block(None, Move(x=1)), 0, 2))
        self.assertEqual(Block(words), exchanged(mirrored(Block(words), "x"), "x", "y"))
        self.assertEqual(("x", 3), next(iter(Block(words, Move(x=3)).deed)))

    def test_texts(self):
        program = Program.read("zero 1 x 5 w 2 ; told 9 ( zero 0 here x 1 ) ; skip ( round ( home y w ) )")
        texts = [str(mirrored(program, "x")), str(exchanged(program, "y", "x")), str(rezeroed(program, 0, 1))]
        self.assertEqual([
            "zero 1 x -5 w 2 ; told 9 ( zero 0 here x -1 ) ; skip ( round ( home y w ) )",
            "zero 1 y 5 w 2 ; told 9 ( zero 0 here y 1 ) ; skip ( round ( home x w ) )",
            "zero 0 x 5 w 2 ; told 9 ( zero 1 here x 1 ) ; skip ( round ( home y w ) )",
        ], texts)

    def test_kinds_places_and_doing_it_twice(self):
        for program in PROGRAMS:
            for one in (program,) + program.members + program.blocks:
                before = str(one)
                for change in (
                    lambda item: mirrored(item, "w"), lambda item: exchanged(item, "x", "w"),
                    lambda item: rezeroed(item, 0, 3),
                ):
                    changed = change(one)
                    self.assertIs(type(one), type(changed))
                    self.assertEqual(one, change(changed))
                    if isinstance(one, Program):
                        self.assertEqual(one.shape, changed.shape)
                        self.assertEqual(one.starts, changed.starts)
                    if isinstance(one, Told):
                        self.assertEqual(one.count, changed.count)
                for value in AXES:
                    self.assertEqual(one, exchanged(one, value, value))
                for value in range(4):
                    self.assertEqual(one, rezeroed(one, value, value))
                self.assertEqual(before, str(one))

    def test_played_numbers_change_likewise(self):
        chance = random.Random(42)
        machine = Machine(3, 4)
        for program in PROGRAMS[:25]:
            for run in list(runs_of(program, 4))[:30]:
                numbers = random_numbers(chance, machine)
                told = self.played(FIRST, numbers, program, run)
                self.assertEqual(
                    self.mirror(*told), self.played(FIRST, self.mirror(numbers)[0], mirrored(program, "y"), run)
                )
                swapped = {"x": numbers["w"], "y": numbers["y"], "w": numbers["x"]}
                other = self.played(FIRST, swapped, exchanged(program, "x", "w"), run)
                self.assertEqual(told[0], {"x": other[0]["w"], "y": other[0]["y"], "w": other[0]["x"]})
                zeroed = {axis: {**row, "z1": row["z2"], "z2": row["z1"]} for axis, row in numbers.items()}
                other = self.played(FIRST, zeroed, rezeroed(program, 1, 2), run)
                self.assertEqual(told[1], other[1])

    def played(self, words, numbers, program, run):
        numbers = copy.deepcopy(numbers)
        marks = do_run(dict(words), numbers, program, run)
        return numbers, marks

    def mirror(self, numbers, marks=()):
        numbers = {**numbers, "y": {name: -number for name, number in numbers["y"].items()}}
        return numbers, [tuple({**row, "y": -row["y"]} for row in mark) for mark in marks]

    def test_wrong_programs(self):
        for value in wrong_values(lambda value: isinstance(value, (Program, Group, Block))):
            self.check_error(BadProgram, {"part": "program"}, mirrored, value, "q")
            self.check_error(BadProgram, {"part": "program"}, exchanged, value, "q", "q")
            self.check_error(BadProgram, {"part": "program"}, rezeroed, value, 9, 9)

    def test_wrong_axes_and_zeros(self):
        for one in (Block(), Skip(Block()), Round(Block()), Told(2, Block()), Program(Block())):
            for value in wrong_values(is_axis):
                self.check_error(NoAxis, {"axis": value}, mirrored, one, value)
                self.check_error(NoAxis, {"axis": value}, exchanged, one, value, "q")
                self.check_error(NoAxis, {"axis": value}, exchanged, one, "w", value)
            for value in wrong_values(lambda value: is_integer(value) and 0 <= value <= 3):
                self.check_error(BadWords, {"part": "zero"}, rezeroed, one, value, 0)
                self.check_error(BadWords, {"part": "zero"}, rezeroed, one, 3, value)
            self.check_error(BadWords, {"part": "zero"}, rezeroed, one, 0, 4)
        self.assertTrue(any_values())


if __name__ == "__main__":
    unittest.main()
