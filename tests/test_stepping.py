import copy
import random
import unittest

from kinds import Checks, any_values, random_block, random_programs, random_told, wrong_values
from plain_play import FIRST, do_run, do_step, random_numbers
from takenup.blocks import Block, Move
from takenup.errors import BadBlock, BadMachine, BadProgram, BadRun, BadWords, NoAxis, TooMany
from takenup.items import Skip, Told
from takenup.machines import Machine
from takenup.maps import Shift
from takenup.places import runs_of
from takenup.programs import Program
from takenup.standing import Standing
from takenup.stepping import (
    block_shift, mark_sums, run_shift, run_words, step_shift, told_shift, turn_shift, turns, words_behind,
)

FIRST_WORDS = Standing.first()
BLOCK = Block(None, Move(x=1))
TOLD = Told(3, BLOCK)


def all_words(machine):
    return list(Standing().fillings(machine))


def is_number_words(machine):
    return lambda words: isinstance(words, Standing) and len(words.number_words) == 3 and words.fits(machine)


class ShiftsOfStepsTest(Checks, unittest.TestCase):
    def test_example(self):
        program = Program.read("x 0 ; told 3 ( x 2 ; on ) ; here x 0")
        told = [str(f(Machine(), Standing.first(), program[1], "x")) for f in [turn_shift, told_shift]]
        self.assertEqual(["p=z0+10 z0=z0 z1=z1", "p=z0+30 z0=z0 z1=z1"], told)
        told = [str(run_shift(program, Machine(), (0, 1, 2, 3), "x")), str(run_words(program, (0, 1, 2)))]
        self.assertEqual(["p=z0+30 z0=z0+30 z1=z1", "on fine zero 0 rapid tool 0 pace 0 still"], told)

    def test_each_deed(self):
        for text, shift in {
            "x 3": "p=z1+381 z0=z0 z1=z1", "on x 3": "p=p+381 z0=z0 z1=z1", "fine x -3": "p=z1-15 z0=z0 z1=z1",
            "zero 0 x 0": "p=z0 z0=z0 z1=z1", "here x 2": "p=p z0=z0 z1=p-254", "on here x 2": "p=p z0=z0 z1=p-254",
            "lay x 2": "p=p z0=z0 z1=z1+254", "on zero 0 lay x -1": "p=p z0=z0-127 z1=z1", "home x": "p=o z0=z0 z1=z1",
            "touch x": "p=s z0=z0 z1=z1", "on cut tool 3": "p=p z0=z0 z1=z1", "y 5": "p=p z0=z0 z1=z1",
            "home y w": "p=p z0=z0 z1=z1", "x 1 y 5": "p=z1+127 z0=z0 z1=z1",
        }.items():
            words = Standing(reading="far", unit="coarse", zero=1)
            self.assertEqual(shift, str(block_shift(Machine(3, 2), words, Block.read(text), "x")))
            self.assertEqual(shift, str(step_shift(Machine(3, 2), words | FIRST_WORDS.plain_words, Block.read(text), "x")))

    def test_blocks_by_numbers(self):
        chance = random.Random(61)
        for _ in range(400):
            machine = Machine(chance.randint(1, 3), chance.randint(1, 4))
            block = random_block(chance, len(machine.axes), machine.zeros, 10 ** 40)
            words = chance.choice(all_words(machine))
            numbers = random_numbers(chance, machine, 10 ** 60)
            behind = copy.deepcopy(numbers)
            do_step(dict(words), behind, block)
            for axis in machine.axes:
                shift = block_shift(machine, words, block, axis)
                self.assertEqual(behind[axis], shift(numbers[axis]))
                self.assertEqual(shift, step_shift(machine, words, block, axis))

    def test_tolds_by_their_turns_written_out(self):
        chance = random.Random(62)
        for _ in range(150):
            machine = Machine(2, chance.randint(1, 4))
            told = random_told(chance, 2, 2, machine.zeros, 5)
            words = chance.choice(all_words(machine))
            numbers = random_numbers(chance, machine)
            behind, held = copy.deepcopy(numbers), dict(words)
            do_step(held, behind, told)
            first, held_first = copy.deepcopy(numbers), dict(words)
            do_step(held_first, first, told.with_items(*told.members) if told.count == 1 else Told(1, *told.members))
            for axis in machine.axes:
                self.assertEqual(behind[axis], told_shift(machine, words, told, axis)(numbers[axis]))
                self.assertEqual(behind[axis], step_shift(machine, words, told, axis)(numbers[axis]))
                self.assertEqual(first[axis], turn_shift(machine, words, told, axis)(numbers[axis]))
            self.assertEqual(held, dict(words_behind(words, told)))
            self.assertEqual(held_first, held)

    def test_great_counts_beside_two_parts(self):
        chance = random.Random(63)
        for _ in range(60):
            machine = Machine(1, chance.randint(1, 4))
            told = random_told(chance, 2, 1, machine.zeros, 10 ** 12)
            whole = Told(10 ** 12, *told.members)
            words = chance.choice(all_words(machine))
            one = chance.randint(1, 10 ** 12 - 1)
            first = told_shift(machine, words, Told(one, *told.members), "x")
            second = told_shift(machine, words_behind(words, whole), Told(10 ** 12 - one, *told.members), "x")
            self.assertEqual(first * second, told_shift(machine, words, whole, "x"))
            turn = turn_shift(machine, words, whole, "x")
            later = turn_shift(machine, words_behind(words, whole), whole, "x")
            self.assertEqual(turn * later.power(10 ** 12 - 1), step_shift(machine, words, whole, "x"))

    def test_a_told_within_a_told(self):
        told = Program.read("told 2 ( x 1 ; told 1000000000000 ( on x 1 ) )")[0]
        shift = told_shift(Machine(1, 1), FIRST_WORDS, told, "x")
        self.assertEqual(f"p=z0+{5 + 5 * 10 ** 12 + 5 + 5 * 10 ** 12} z0=z0", str(shift))

    def test_wrong_arguments_of_step_shifts(self):
        far = Standing(reading="far", unit="fine", zero=1)
        machine = Machine(1, 2)
        cases = [
            (block_shift, lambda value: isinstance(value, Block), BadBlock, "block", BLOCK),
            (turn_shift, lambda value: isinstance(value, Told), BadProgram, "told", TOLD),
            (told_shift, lambda value: isinstance(value, Told), BadProgram, "told", TOLD),
            (step_shift, lambda value: isinstance(value, (Block, Told)), BadProgram, "step", BLOCK),
            (step_shift, lambda value: isinstance(value, (Block, Told)), BadProgram, "step", TOLD),
        ]
        for work, is_step, error, part, step in cases:
            for value in wrong_values(lambda value: isinstance(value, Machine)):
                self.check_error(BadMachine, {"part": "machine"}, work, value, None, None, None)
            for value in wrong_values(is_number_words(machine)) + [Standing(reading="far", zero=0), Standing(unit="fine")]:
                self.check_error(BadWords, {"part": "words"}, work, machine, value, None, None)
            self.check_error(BadWords, {"part": "words"}, work, Machine(1, 1), far, None, None)
            for value in wrong_values(is_step):
                self.check_error(error, {"part": part}, work, machine, far, value, "q")
            for value in wrong_values(lambda value: isinstance(value, str) and value == "x"):
                wide = step.with_items(Block.read("y 1")) if step is TOLD else Block.read("y 1")
                self.check_error(NoAxis, {"axis": value}, work, machine, far, wide, value)
            for text in ("y 1", "home x y", "zero 2", "lay w 0", "zero 3 x 1"):
                bad = Block.read(text)
                for one in [bad] if step is BLOCK else [Told(2, bad), Told(2, BLOCK, Told(2, BLOCK, bad))]:
                    self.check_error(BadMachine, {"part": "fit"}, work, machine, far, one, "x")

    def test_words_behind(self):
        step = Program.read("told 2 ( on zero 1 ; told 3 ( zero 2 cut x 1 ) ; tool 4 )")[0]
        self.assertEqual("on zero 2 cut tool 4", str(words_behind(Standing(), step)))
        self.assertEqual("on fine zero 2 cut tool 4 pace 0 still", str(words_behind(FIRST_WORDS, step)))
        self.assertEqual("far zero 3", str(words_behind(Standing(reading="far"), Block.read("zero 3 x 1"))))
        for value in wrong_values(lambda value: isinstance(value, Standing)):
            self.check_error(BadWords, {"part": "words"}, words_behind, value, None)
        for value in wrong_values(lambda value: isinstance(value, (Block, Told))):
            self.check_error(BadProgram, {"part": "step"}, words_behind, Standing(), value)

    def test_turns(self):
        for text, many in {
            "x 1": 0, "told 1 ( x 1 )": 1, "told 7 ( x 1 ; x 2 )": 7, "told 3 ( x 1 ; told 2 ( x 1 ) )": 9,
            "told 5 ( told 2 ( - ) ; told 3 ( - ) )": 30,
            "told 1000000000000 ( told 1000000000000 ( - ) )": 10 ** 12 * (10 ** 12 + 1),
        }.items():
            self.assertEqual(many, turns(Program.read(text)[0]))
        for value in wrong_values(lambda value: isinstance(value, (Block, Told))):
            self.check_error(BadProgram, {"part": "step"}, turns, value)
        self.check_error(BadProgram, {"part": "step"}, turns, Skip(BLOCK))


class RunsTest(Checks, unittest.TestCase):
    def setUp(self):
        self.programs = random_programs(64, 60, depth=4, axes=2, zeros=3)
        self.machine = Machine(2, 3)

    def runs(self, program, chance):
        for begin in [None, chance.randint(0, program.end)]:
            runs = []
            for run in runs_of(program, 5, begin):
                runs.append(run)
                if len(runs) == 60:
                    break
            yield from chance.sample(runs, min(5, len(runs)))

    def test_runs_by_numbers(self):
        chance = random.Random(65)
        for program in self.programs:
            for run in self.runs(program, chance):
                for words in (None, chance.choice(all_words(self.machine)) | Standing(way="cut")):
                    numbers = random_numbers(chance, self.machine)
                    behind, held = copy.deepcopy(numbers), dict(FIRST if words is None else words)
                    marks = do_run(held, behind, program, run)
                    for axis in self.machine.axes:
                        shift = run_shift(program, self.machine, list(run), axis, words)
                        self.assertEqual(behind[axis], shift(numbers[axis]))
                        told = list(mark_sums(program, self.machine, run, axis, words))
                        sums = [tuple(one.value_in(numbers[axis]) for one in pair) for pair in told]
                        self.assertEqual([(ahead[axis], ends[axis]) for ahead, ends in marks], sums)
                    self.assertEqual(held, dict(run_words(program, run, words)))

    def test_run_words_with_words_left(self):
        program = Program.read("on ; round ( told 2 ( zero 3 ; cut ) ; skip ( far x 1 ) )")
        self.assertEqual("on", str(run_words(program, (0, 1), Standing())))
        self.assertEqual("on zero 3 cut pace 7", str(run_words(program, [0, 1, 2], words=Standing(pace=7))))
        self.assertEqual("zero 3 cut", str(run_words(program, (1, 1), Standing())))
        self.assertEqual("-", str(run_words(program, (2,), Standing())))
        self.assertEqual(FIRST_WORDS, run_words(program, (2,)))

    def test_a_run_of_one_place(self):
        program = Program.read("x 1 ; told 3 ( x 2 )")
        self.assertEqual(Shift(Machine()), run_shift(program, Machine(), (1,), "x"))
        self.assertEqual([], list(mark_sums(program, Machine(), [2], "x")))

    def test_marks_of_blocks_that_do_not_name_the_axis(self):
        program = Program.read("x 1 ; y 1 ; home y ; lay y 1 ; touch x y ; -")
        told = [tuple(map(str, pair)) for pair in mark_sums(program, Machine(2, 1), tuple(range(7)), "x")]
        self.assertEqual([("p", "z0+5"), ("z0+5", "z0+5"), ("z0+5", "z0+5"), ("z0+5", "s")], told)

    def test_number_of_turns(self):
        program = Program.read("round ( told 2500 ( x 1 ) ; told 1250 ( - ; told 1 ( - ) ) )")
        machine = Machine(1, 1)
        self.assertEqual(5000, len(list(mark_sums(program, machine, (0, 1, 0, 1, 2), "x"))))
        many = {"what": "turns", "most": 10000}
        self.check_error(TooMany, many, mark_sums, program, machine, (0, 1, 0, 1, 0, 1), "x")
        great = Program.read("told 1000000000000 ( x 1 )")
        self.check_error(TooMany, many, mark_sums, great, machine, (0, 1), "x")
        self.check_error(TooMany, many, mark_sums, Program.read("told 10001 ( - )"), machine, (0, 1), "x")
        self.assertEqual([], list(mark_sums(Program.read("told 10000 ( - )"), machine, (0, 1), "x")))
        self.assertEqual([], list(mark_sums(great, machine, (0,), "x")))
        self.check_error(BadWords, {"part": "words"}, mark_sums, great, machine, (0, 1), "x", Standing())

    def test_wrong_arguments(self):
        program, machine = Program.read("x 1 ; skip ( on x 2 ) ; x 3"), Machine(1, 2)
        wide, zeroed = Program.read("skip ( y 1 )"), Program.read("told 2 ( zero 2 )")
        for work in (run_shift, mark_sums):
            for value in wrong_values(lambda value: isinstance(value, Program)):
                self.check_error(BadProgram, {"part": "program"}, work, value, None, None, None)
            for value in wrong_values(lambda value: isinstance(value, Machine)):
                self.check_error(BadMachine, {"part": "machine"}, work, program, value, None, None)
            for bad in (wide, zeroed):
                self.check_error(BadMachine, {"part": "fit"}, work, bad, machine, None, None, 5)
            for value in wrong_values(lambda value: value in ([0], (0,))):
                self.check_error(BadRun, {"at": 0}, work, program, machine, value, "q", 5)
            for value, at in (([0, 2, 1], 2), ((1, 2, 3, 3), 3), ((0, True), 1), ((3, 4), 1), ((4,), 0)):
                self.check_error(BadRun, {"at": at}, work, program, machine, value, "q", 5)
            for value in wrong_values(lambda value: isinstance(value, str) and value == "x"):
                self.check_error(NoAxis, {"axis": value}, work, program, machine, (1, 2), value, 5)
            for value in wrong_values(lambda value: value is None or is_number_words(machine)(value)):
                self.check_error(BadWords, {"part": "words"}, work, program, machine, (1, 2), "x", value)
            self.check_error(BadWords, {"part": "words"}, work, program, machine, (1, 2), "x", FIRST_WORDS | Standing(zero=2))
        for value in wrong_values(lambda value: isinstance(value, Program)):
            self.check_error(BadProgram, {"part": "program"}, run_words, value, None, 5)
        for value in wrong_values(lambda value: value in ([0], (0,))):
            self.check_error(BadRun, {"at": 0}, run_words, program, value, 5)
        self.check_error(BadRun, {"at": 1}, run_words, program, (0, 0), 5)
        for value in wrong_values(lambda value: value is None or isinstance(value, Standing)):
            self.check_error(BadWords, {"part": "words"}, run_words, program, (0, 1), value)
        self.assertTrue(any_values())


if __name__ == "__main__":
    unittest.main()
