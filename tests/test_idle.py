import random
import unittest

from kinds import Checks, any_values, is_integer, random_programs, wrong_values
from takenup.alike import alike
from takenup.blocks import Block, Here, Move
from takenup.errors import BadBlock, BadMachine, BadProgram, NoPlace, TooMany
from takenup.idle import idle_deeds, idle_words, is_idle, lean, without
from takenup.items import Round, Skip
from takenup.machines import Machine
from takenup.programs import Program
from takenup.standing import Standing

PATH = Program.read("far x 0 ; skip ( on zero 1 ) ; told 3 ( on coarse x 1 ; told 2 ( lay x 0 ; cut ) )")


def word_sites(program):
    return [(place, inside, name) for place, inside in program.sites() for name in program.block_at(place, *inside).words.said]


def deed_sites(program):
    return [(place, inside) for place, inside in program.sites() if program.block_at(place, *inside).deed is not None]


class WithoutTest(Checks, unittest.TestCase):
    def test_by_hand(self):
        for args, text in {
            (0, "reading"): "x 0 ; skip ( on zero 1 ) ; told 3 ( on coarse x 1 ; told 2 ( lay x 0 ; cut ) )",
            (0, None): "far ; skip ( on zero 1 ) ; told 3 ( on coarse x 1 ; told 2 ( lay x 0 ; cut ) )",
            (1, "zero"): "far x 0 ; skip ( on ) ; told 3 ( on coarse x 1 ; told 2 ( lay x 0 ; cut ) )",
            (2, "unit", 0): "far x 0 ; skip ( on zero 1 ) ; told 3 ( on x 1 ; told 2 ( lay x 0 ; cut ) )",
            (2, None, 1, 0): "far x 0 ; skip ( on zero 1 ) ; told 3 ( on coarse x 1 ; told 2 ( - ; cut ) )",
            (2, "way", 1, 1): "far x 0 ; skip ( on zero 1 ) ; told 3 ( on coarse x 1 ; told 2 ( lay x 0 ; - ) )",
        }.items():
            self.assertEqual(text, str(without(PATH, *args)))
        self.assertEqual("far x 0 ; skip ( on zero 1 )", str(PATH)[:28])

    def test_the_shape_stays(self):
        for program in random_programs(171, 40, depth=4):
            for place, inside, name in word_sites(program):
                left = without(program, place, name, *inside)
                self.assertEqual(program.shape, left.shape)
                self.assertEqual(left.block_at(place, *inside), program.block_at(place, *inside) - Standing(
                    **{name: program.block_at(place, *inside).words[name]}
                ))
            for place, inside in deed_sites(program):
                left = without(program, place, None, *inside)
                self.assertEqual(Block(program.block_at(place, *inside).words), left.block_at(place, *inside))

    def test_wrong_arguments(self):
        machine = Machine(1, 2)
        works = (without, lambda program, *args: is_idle(program, machine, *args))
        for work in works:
            for value in wrong_values(lambda value: isinstance(value, Program)):
                self.check_error(BadProgram, {"part": "program"}, work, value, 99, 9, 9)
            for value in wrong_values(lambda value: is_integer(value) and 0 <= value < PATH.end):
                self.check_error(NoPlace, {"place": value}, work, PATH, value, 9, 9)
            self.check_error(NoPlace, {"place": PATH.end}, work, PATH, PATH.end, 9)
            for inside in ((0,), (0, 0), (True,), ("x",)):
                self.check_error(BadProgram, {"part": "inside"}, work, PATH, 0, 9, *inside)
            for inside in ((), (1,), (2,), (1, 2), (1, 0, 0), (0, 0), (-1,), (1, None)):
                self.check_error(BadProgram, {"part": "inside"}, work, PATH, 2, 9, *inside)
            for value in wrong_values(lambda value: value is None or isinstance(value, str) and value == "reading"):
                self.check_error(BadBlock, {"part": "word"}, work, PATH, 0, value)
            for name in ("zero", "way", "deed"):
                self.check_error(BadBlock, {"part": "word"}, work, PATH, 0, name)
            self.check_error(BadBlock, {"part": "deed"}, work, PATH, 1, None)
            self.check_error(BadBlock, {"part": "deed"}, work, PATH, 2, None, 1, 1)
            self.check_error(BadBlock, {"part": "word"}, work, PATH, 2, "way", 1, 0)


class IdleTest(Checks, unittest.TestCase):
    def test_by_hand(self):
        machine = Machine(1, 2)
        for text, words, deeds in (
            ("far x 0", [(0, (), "reading")], []),
            ("on x 0 ; far x 1 ; far x 2", [(2, (), "reading")], []),
            ("x 3 ; here x 3 ; pace 4", [(2, (), "pace")], [(1, ())]),
            ("told 2 ( lay x 0 ; coarse lay x 0 )", [(0, (1,), "unit")], [(0, (0,)), (0, (1,))]),
            ("skip ( zero 1 ) ; zero 0 home x ; cut", [(0, (), "zero"), (1, (), "zero"), (2, (), "way")], []),
            ("pace 4 ; cut x 1", [], []), ("pace 4 ; x 1", [(0, (), "pace")], []),
            ("round ( here x 0 )", [], []), ("x 0 ; round ( here x 0 )", [], [(1, ())]),
        ):
            program = Program.read(text)
            self.assertEqual((tuple(words), tuple(deeds)), (idle_words(program, machine), idle_deeds(program, machine)), text)

    def test_by_alike(self):
        machine = Machine(2, 2)
        found = []
        begin = Program.read("x 0 ; here x 0 ; skip ( lay y 0 ) ; here y 3")
        for program in [begin + one for one in random_programs(172, 40, depth=3, axes=2)]:
            told = idle_words(program, machine)
            self.assertIs(tuple, type(told))
            expected = [site for site in word_sites(program) if alike(program, machine, without(program, site[0], site[2], *site[1]))]
            self.assertEqual(tuple(expected), told)
            for place, inside, name in word_sites(program):
                self.assertIs((place, inside, name) in told, is_idle(program, machine, place, name, *inside))
            deeds = [site for site in deed_sites(program) if alike(program, machine, without(program, site[0], None, *site[1]))]
            self.assertEqual(tuple(deeds), idle_deeds(program, machine))
            for place, inside in deed_sites(program):
                self.assertIs((place, inside) in deeds, is_idle(program, machine, place, None, *inside))
            found += [len(told), len(deeds)]
        self.assertTrue(sum(found[::2]) > 30 and sum(found[1::2]) > 3, found)

    def left_out(self, program, machine):
        """One time through all deeds, then all words, by alike."""
        for sites in ([(*site, None) for site in deed_sites(program)], word_sites(program)):
            for place, inside, name in sites:
                left = without(program, place, name, *inside)
                if alike(program, machine, left):
                    program = left
        return program

    def test_lean(self):
        machine = Machine(2, 2)
        chance = random.Random(173)
        leaner = 0
        for program in random_programs(174, 60, depth=3, axes=2):
            told = lean(program, machine)
            expected = program
            while self.left_out(expected, machine) != expected:
                expected = self.left_out(expected, machine)
            self.assertEqual(expected, told)
            self.assertTrue(alike(program, machine, told))
            self.assertEqual(((), ()), (idle_words(told, machine), idle_deeds(told, machine)))
            leaner += told != program
            for place, inside, name in chance.sample(word_sites(told), min(3, len(word_sites(told)))):
                self.assertFalse(alike(told, machine, without(told, place, name, *inside)))
        self.assertGreater(leaner, 20)

    def test_lean_by_hand(self):
        machine = Machine(1, 2)
        for text, left in (
            ("far fine zero 0 x 0 ; here x 0 ; pace 3 ; on x 1", "x 0 ; - ; - ; x 1"), ("x 1", "x 1"),
            ("on ; on x 1 ; on x 2", "- ; on x 1 ; x 2"), ("coarse ; coarse x 0 ; x 1", "- ; coarse x 0 ; x 1"),
        ):
            self.assertEqual(left, str(lean(Program.read(text), machine)))

    def test_two_that_are_idle_each_by_itself(self):
        program, machine = Program.read("on ; on x 1"), Machine(1, 2)
        self.assertEqual(((0, (), "reading"), (1, (), "reading")), idle_words(program, machine))
        self.assertEqual("- ; on x 1", str(lean(program, machine)))

    def test_numbers_of_any_size(self):
        machine, many = Machine(1, 2), 10 ** 5000
        program = Program(Block(Standing(reading="far"), Move(x=many)), Block(None, Here(x=many)), Block(None, Here(x=many + 1)))
        self.assertEqual((((0, (), "reading"),), ((1, ()),)), (idle_words(program, machine), idle_deeds(program, machine)))
        self.assertEqual(Program(Block(None, Move(x=many)), Block(), program[2]), lean(program, machine))

    def test_many_steps_six_deep(self):
        text = "x 1 ; skip ( here x 0 y 1 ; round ( on y -2 ; skip ( zero 1 lay x 1 ; round ( coarse cut ; far x 3 ) ) ) )"
        program = Program.read(f"far x 0 ; round ( round ( {text} ) ; skip ( {text} ) ; {text} ) ; {text} ; {text} ; zero 0")
        machine = Machine(3, 4)
        told = idle_words(program, machine)
        self.assertTrue((0, (), "reading") in told and (program.end - 1, (), "zero") in told)
        left = lean(program, machine)
        self.assertEqual(((), ()), (idle_words(left, machine), idle_deeds(left, machine)))

    def test_more_plain_pairs(self):
        many = {"what": "nodes", "most": 2000}
        skips = [Skip(Block(Standing(pace=at))) for at in range(1, 10)] + [Skip(Block(Standing(tool=at))) for at in range(1, 10)]
        program = Program(Block(), Block.read("lay x 0"), Round(*skips), Block())
        for work in (idle_deeds, lean):
            self.check_error(TooMany, many, work, program, Machine())
        self.check_error(TooMany, many, is_idle, program, Machine(), 1, None)
        self.check_error(TooMany, many, idle_words, program, Machine())

    def test_wrong_arguments(self):
        machine = Machine(1, 2)
        for work, rest in ((is_idle, (99, 9, 9)), (idle_words, ()), (idle_deeds, ()), (lean, ())):
            for value in wrong_values(lambda value: isinstance(value, Program)):
                self.check_error(BadProgram, {"part": "program"}, work, value, 9, *rest)
            for value in wrong_values(lambda value: isinstance(value, Machine)):
                self.check_error(BadMachine, {"part": "machine"}, work, PATH, value, *rest)
            self.check_error(BadMachine, {"part": "fit"}, work, PATH, Machine(1, 1), *rest)
        self.assertTrue(any_values() and is_idle(PATH, machine, 2, None, 1, 0))


if __name__ == "__main__":
    unittest.main()
