import copy
import random
import unittest

from kinds import Checks, any_values, random_programs, wrong_values
from plain_play import FIRST, marks_of_step, random_numbers
from takenup.blocks import Block
from takenup.errors import BadMachine, BadProgram, BadRun, BadStand, BadWords, TooMany
from takenup.items import Round, Told
from takenup.machines import Machine
from takenup.marks import Mark
from takenup.papers import Denial, Paper
from takenup.places import runs_of
from takenup.programs import Program
from takenup.runs import Played, far, play, steps_of
from takenup.standing import Standing, values_of
from takenup.stands import Stand

PATH = Program.read("x 0 ; on ; round ( cut x 4 ; here x 0 )")
ONE = Machine(1, 1)


def some_runs(program, chance, many=6):
    """Some runs and runs on of few steps."""
    picked = []
    for begin in [None] + list(range(program.end + 1)):
        runs = []
        for run in runs_of(program, 5, begin):
            runs.append(run)
            if len(runs) == 50:
                break
        picked.extend(chance.sample(runs, min(2, len(runs))))
    return chance.sample(picked, min(many, len(picked)))


def full_words(chance, machine):
    return Standing(**{name: chance.choice(values_of(name, machine)) for name in Standing.NAMES})


class PlayTest(Checks, unittest.TestCase):
    def test_example(self):
        played = play(PATH, ONE, (0, 1, 2, 3, 2), Stand(ONE, x={"z0": 10}))
        told = [str(mark) for mark in played.marks] + [str(played.stand)]
        self.assertEqual(
            ["rapid 10", "cut 10 to 30 tool 0 pace 0 still", "machine 1 1 x 30 30 0 0"], told
        )

    def test_the_paper(self):
        played = Played(marks=[1, [2]], stand="a", words="b")
        self.assertEqual(("a", "b", (1, (2,))), (played.stand, played.words, played.marks))
        self.assertEqual(("played", ("a", "b", (1, (2,)))), (played.word, played.parts))
        self.assertTrue(played and played == Paper("played", "a", "b", [1, [2]]))
        self.assertFalse(isinstance(played, Denial))

    def test_by_plain_playing(self):
        chance = random.Random(101)
        for axes, zeros in ((1, 1), (2, 2), (3, 4)):
            machine = Machine(axes, zeros)
            for program in random_programs(100 + axes, 40, depth=4, axes=axes, zeros=zeros):
                for run in some_runs(program, chance):
                    for words in (None, full_words(chance, machine)):
                        self.check_run(program, machine, run, words, random_numbers(chance, machine, 10 ** 30))

    def check_run(self, program, machine, run, words, numbers):
        stand = Stand(machine, **numbers)
        behind, held = copy.deepcopy(numbers), dict(FIRST if words is None else words)
        steps, marks = [], []
        for place in run[:-1]:
            told = marks_of_step(held, behind, program.steps[place])
            marks.extend(told)
            steps.append((Stand(machine, **behind), Standing(**held), [Mark(*parts) for parts in told]))
        end = (Stand(machine, **behind), Standing(**held))
        played = play(program, machine, list(run), stand, words)
        self.assertIs(Played, type(played))
        self.assertEqual(Played(*end, [Mark(*parts) for parts in marks]), played)
        self.assertEqual([Played(*parts) for parts in steps], list(steps_of(program, machine, run, stand, words)))
        self.assertEqual(end, far(program, machine, run, stand, words))
        for mark in played.marks:
            self.assertIs(Mark, type(mark))

    def test_marks_also_where_no_number_changes(self):
        program = Program.read("x 0 ; x 0 ; on x 0 y 0 ; cut home y ; touch x ; here x 0 ; lay y 1 ; - ; cut")
        machine = Machine(2, 1)
        played = play(program, machine, tuple(range(10)), Stand(machine, x={"s": 7}))
        told = [str(mark) for mark in played.marks]
        self.assertEqual(["rapid 0 0"] * 3 + ["cut 0 0 to 0 0 tool 0 pace 0 still", "cut 0 0 to 7 0 tool 0 pace 0 still"], told)

    def test_a_run_that_is_cut_in_two(self):
        chance = random.Random(102)
        machine = Machine(2, 2)
        for program in random_programs(103, 40, depth=4, axes=2):
            for run in some_runs(program, chance, 3):
                stand = Stand(machine, **random_numbers(chance, machine))
                whole = play(program, machine, run, stand)
                for at in range(len(run)):
                    first = play(program, machine, run[:at + 1], stand)
                    second = play(program, machine, run[at:], first.stand, first.words)
                    self.assertEqual(whole, Played(second.stand, second.words, first.marks + second.marks))
                    middle = far(program, machine, run[:at + 1], stand)
                    self.assertEqual((whole.stand, whole.words), far(program, machine, run[at:], *middle))

    def test_a_run_of_one_place(self):
        stand = Stand(ONE, x={"p": 4})
        self.assertEqual(Played(stand, Standing.first(), ()), play(PATH, ONE, (2,), stand))
        self.assertEqual([], list(steps_of(PATH, ONE, [4], stand)))
        self.assertEqual((stand, Standing.first()), far(PATH, ONE, (0,), stand))

    def test_far_through_many_turns(self):
        chance = random.Random(104)
        machine = Machine(2, 2)
        many = 10 ** 12
        for program in random_programs(105, 30, depth=3, axes=2, most=2):
            small = [step for step in program.steps if isinstance(step, Told)]
            for told in small:
                stand = Stand(machine, **random_numbers(chance, machine))
                one = Program(Told(many, *told.members))
                parts = Program(Told(many // 2, *told.members), Told(many - many // 2 - 1, *told.members), Round(told))
                turn = Program(Told(1, *told.members))
                words = full_words(chance, machine)
                middle = far(parts, machine, (0, 1, 2), stand, words)
                self.assertEqual(far(one, machine, (0, 1), stand, words), far(turn, machine, (0, 1), *middle))

    def test_far_by_hand(self):
        machine = Machine(1, 1)
        program = Program.read("on ; told 1000000000000 ( x 1 ; told 1000000000000 ( lay x 2 ) )")
        stand, words = far(program, machine, (0, 1, 2), Stand(machine))
        self.assertEqual({"p": 5 * 10 ** 12, "z0": 10 ** 25, "o": 0, "s": 0}, stand.numbers("x"))
        self.assertEqual("on fine zero 0 rapid tool 0 pace 0 still", str(words))

    def test_number_of_turns(self):
        most = {"what": "turns", "most": 10000}
        program = Program.read("round ( told 5000 ( x 1 ) ; told 100 ( on ; told 49 ( - ; x 2 ) ) )")
        stand = Stand(ONE)
        played = play(program, ONE, (0, 1, 0), stand)
        self.assertEqual(9900, len(played.marks))
        self.assertEqual(far(program, ONE, (0, 1, 0), stand), (played.stand, played.words))
        self.assertEqual(2, len(list(steps_of(program, ONE, (0, 1, 0), stand))))
        exact = Program.read("told 10000 ( - )")
        self.assertEqual((), play(exact, ONE, (0, 1), stand).marks)
        for text, run in {
            "told 10001 ( - )": (0, 1), "told 5001 ( told 1 ( - ) )": (0, 1), "round ( told 5000 ( - ) )": (0, 0, 0, 0),
            "told 10000 ( - ) ; told 1 ( - )": (0, 1, 2), "told 1000000000000 ( told 1000000000000 ( x 1 ) )": (0, 1),
        }.items():
            great = Program.read(text)
            self.check_error(TooMany, most, play, great, ONE, run, stand)
            self.check_error(TooMany, most, steps_of, great, ONE, run, stand)
            self.assertEqual(stand.machine, far(great, ONE, run, stand)[0].machine)
            self.assertEqual((), play(great, ONE, run[:1], stand).marks)

    def test_wrong_arguments(self):
        program, machine = Program.read("x 1 ; skip ( on x 2 ) ; x 3"), Machine(1, 2)
        great = Program.read("told 10001 ( - )")
        wide, zeroed = Program.read("skip ( y 1 )"), Program.read("told 2 ( zero 2 )")
        stand = Stand(machine)
        full = Standing.first()
        for work in (play, steps_of, far):
            for value in wrong_values(lambda value: isinstance(value, Program)):
                self.check_error(BadProgram, {"part": "program"}, work, value, None, None, None, 5)
            for value in wrong_values(lambda value: isinstance(value, Machine)):
                self.check_error(BadMachine, {"part": "machine"}, work, program, value, None, None, 5)
            for bad in (wide, zeroed):
                self.check_error(BadMachine, {"part": "fit"}, work, bad, machine, None, None, 5)
            for value in wrong_values(lambda value: value in ([0], (0,))):
                self.check_error(BadRun, {"at": 0}, work, program, machine, value, None, 5)
            for value, at in (([0, 2, 1], 2), ((1, 2, 3, 3), 3), ((0, True), 1), ((3, 4), 1), ((4,), 0), ((0, None), 1)):
                self.check_error(BadRun, {"at": at}, work, program, machine, value, None, 5)
            for value in wrong_values(lambda value: isinstance(value, Stand) and value.machine == machine):
                self.check_error(BadStand, {"part": "stand"}, work, program, machine, (1, 2), value, 5)
            self.check_error(BadStand, {"part": "stand"}, work, program, machine, (1, 2), Stand(Machine(2, 2)), 5)
            for value in wrong_values(
                lambda value: value is None or isinstance(value, Standing) and value.is_full and value.fits(machine)
            ) + [full.with_word("pace", None), full.with_word("zero", 2), full.node_words]:
                self.check_error(BadWords, {"part": "words"}, work, program, machine, (1, 2), stand, value)
            self.check_error(BadWords, {"part": "words"}, work, great, machine, (0, 1), stand, 5)

    def test_nothing_that_is_passed_changes(self):
        run = [0, 1, 2, 3, 4]
        stand = Stand(ONE, x={"z0": 10})
        words = Standing.first()
        played = play(PATH, ONE, run, stand, words)
        text = str(played.stand)
        numbers = played.stand.numbers("x")
        numbers["p"] = 99
        run.append(5)
        self.assertEqual([text, "machine 1 1 x 0 10 0 0", Standing.first()], [str(played.stand), str(stand), words])
        self.assertEqual(Block.read("x 0"), PATH[0])
        self.assertTrue(any_values())


if __name__ == "__main__":
    unittest.main()
