import itertools
import random
import unittest

from kinds import Checks, is_integer, random_programs, wrong_values
from side_by_side import blocks_in_play, is_marking
from takenup.errors import BadProgram, BadWords, NoPlace
from takenup.machines import Machine
from takenup.places import runs_of
from takenup.programs import Program
from takenup.standing import Standing, values_of
from takenup.stepping import run_words, words_behind
from takenup.uses import uses, wanted

PATH = Program.read("x 0 ; on ; round ( x 4 ; here x 0 ) ; far x 0")


def limited_runs(program, most, limit, begin=None):
    return list(itertools.islice(runs_of(program, most, begin), limit))


def read_names(block):
    """The names that a block reads, by the document."""
    if block.deed is None:
        return set()
    kind, plain = block.deed.KIND, {"way", "tool", "pace", "spindle"}
    if kind in ("home", "touch"):
        return plain
    unit = {"unit"} if any(number != 0 for _, number in block.deed) else set()
    return {"zero"} | unit | (plain | {"reading"} if kind == "move" else set())


class UsesTest(Checks, unittest.TestCase):
    def used_along(self, program, run_on):
        used, said = set(), set()
        for place in run_on[:-1]:
            for _, block in blocks_in_play(program[place], 1):
                said |= set(block.words.said)
                used |= read_names(block) - said
        return used

    def test_by_all_runs_on(self):
        for program in random_programs(181, 150, depth=4, axes=2):
            for place in range(program.end + 1):
                runs = limited_runs(program, 6, 400, place)
                used = set()
                for run_on in runs:
                    used |= self.used_along(program, run_on)
                told = uses(program, place)
                self.assertEqual(tuple(name for name in Standing.NAMES if name in told), told)
                self.assertLessEqual(used, set(told))
                if len(runs) < 400:
                    self.assertEqual(used, set(told))

    def test_by_hand(self):
        self.assertEqual(("zero", "way", "tool", "pace", "spindle"), uses(PATH, 4))
        for text, names in {
            "x 0": "reading zero way tool pace spindle", "x 1": "reading unit zero way tool pace spindle",
            "on x 0": "zero way tool pace spindle", "home x": "way tool pace spindle", "touch x": "way tool pace spindle",
            "here x 0": "zero", "lay x 0 y 1": "unit zero", "fine zero 1 lay x 1": "", "far fine zero 0 rapid": "",
            "zero 1 ; x 1": "reading unit way tool pace spindle", "skip ( zero 1 ) ; lay x 1": "unit",
            "told 2 ( lay x 0 ; zero 1 )": "zero", "told 2 ( zero 1 ; lay x 0 )": "", "told 2 ( - ; told 3 ( cut ; home x ) )":
            "tool pace spindle", "round ( zero 0 ; lay x 0 ; - )": "", "-": "",
        }.items():
            self.assertEqual(tuple(names.split()), uses(Program.read(text), 0), text)
        self.assertEqual((), uses(PATH, 5))

    def test_wrong_arguments(self):
        for value in wrong_values(lambda value: isinstance(value, Program)):
            self.check_error(BadProgram, {"part": "program"}, uses, value, 99)
            self.check_error(BadProgram, {"part": "program"}, wanted, value, 99, 9)
        for value in wrong_values(lambda value: is_integer(value) and 0 <= value <= PATH.end):
            self.check_error(NoPlace, {"place": value}, uses, PATH, value)
            self.check_error(NoPlace, {"place": value}, wanted, PATH, value, 9)
        for value in wrong_values(lambda value: isinstance(value, str) and value in Standing.PLAIN_NAMES):
            self.check_error(BadWords, {"part": "name"}, wanted, PATH, 0, value)


class WantedTest(Checks, unittest.TestCase):
    def is_shown(self, program, run_on, way, name):
        """Whether the last step but one is the first with a mark that shows the word, and no block ahead says it."""
        words = Standing(way=way)
        for at, place in enumerate(run_on[:-1]):
            for _, block in blocks_in_play(program[place], 3):
                words = words | block.words
                if name in block.words.said:
                    return False
                if is_marking(block) and (name == "way" or words.way == "cut"):
                    return at == len(run_on) - 2
        return False

    def expected(self, program, place, name, runs, runs_on):
        """The items for the values that are wanted by these runs and runs on, which are in their order."""
        found = {}
        for run in runs:
            words = run_words(program, run)
            if run[-1] == place and words[name] not in found:
                shown = [run_on for run_on in runs_on if self.is_shown(program, run_on, words.way, name)]
                if shown:
                    found[words[name]] = (words[name], run, shown[0])
        return tuple(found[value] for value in values_of(name, Machine()) if value in found)

    def test_by_all_runs(self):
        done = several = 0
        for program in random_programs(182, 160, depth=3, axes=1):
            runs = limited_runs(program, 5, 100)
            for place in range(program.end + 1):
                runs_on = limited_runs(program, 5, 100, place)
                for name in Standing.PLAIN_NAMES:
                    told = wanted(program, place, name)
                    short = tuple(row for row in told if len(row[1]) <= 6 and len(row[2]) <= 6)
                    expected = self.expected(program, place, name, runs, runs_on)
                    if len(runs) < 100 and len(runs_on) < 100:
                        self.assertEqual(expected, short)
                        done += 1
                    several += len(told) > 1
        self.assertTrue(done > 500 and several > 20, (done, several))

    def test_by_hand(self):
        self.assertEqual((("rapid", (0, 1, 2), (2, 3)),), wanted(PATH, 2, "way"))
        self.assertEqual((), wanted(PATH, 2, "pace"))
        self.assertEqual((), wanted(PATH, 5, "way"))
        program = Program.read("skip ( cut pace 3 ) ; told 2 ( x 1 ; cut ) ; x 2")
        self.assertEqual((("rapid", (1,), (1, 2)), ("cut", (0, 1), (1, 2))), wanted(program, 1, "way"))
        self.assertEqual(((0, (1,), (1, 2)), (3, (0, 1), (1, 2))), wanted(program, 1, "pace"))
        self.assertEqual(((0, (1, 2), (2, 3)), (3, (0, 1, 2), (2, 3))), wanted(program, 2, "pace"))

    def test_a_word_that_a_block_with_the_mark_says(self):
        program = Program.read("skip ( cut ) ; pace 1 x 1 ; cut tool 2 x 1")
        self.assertEqual((), wanted(program, 1, "pace"))
        self.assertEqual(((0, (0, 1), (1, 2)),), wanted(program, 1, "tool"))
        self.assertEqual((("still", (1,), (1, 2, 3)),), wanted(Program.read("skip ( - ) ; rapid x 1 ; cut x 2"), 1, "spindle"))

    def test_the_arrival_whose_way_shows_the_word(self):
        program = Program.read("skip ( pace 5 ) ; skip ( cut pace 5 ) ; x 1")
        self.assertEqual(((5, (1, 2), (2, 3)),), wanted(program.items_from(0, 3), 2, "pace"))
        self.assertEqual(("rapid", "cut"), tuple(row[0] for row in wanted(program, 2, "way")))

    def test_turns_within_turns(self):
        program = Program.read("told 2 ( told 2 ( x 1 ; - ) ; spindle )".replace("spindle", "cut"))
        self.assertEqual((("still", (0,), (0, 1)),), wanted(program, 0, "spindle"))
        self.assertEqual((), wanted(Program.read("told 1 ( told 2 ( x 1 ; - ) ; cut )"), 0, "spindle"))
        self.assertEqual((), wanted(Program.read("told 2 ( told 2 ( x 1 ; - ) ; cut turning )"), 0, "spindle"))

    def test_forty_steps(self):
        chance = random.Random(183)
        text = " ; ".join([f"skip ( tool {chance.randint(0, 9)} pace {at} )" for at in range(19)])
        program = Program.read(f"round ( {text} ; skip ( cut ) ) ; {text} ; x 1")
        told = wanted(program, program.end - 1, "pace")
        self.assertEqual(list(range(19)), [row[0] for row in told])
        self.assertTrue(all(run_words(program, row[1]).pace == row[0] for row in told))
        self.assertTrue(words_behind(Standing(), program[0]))


if __name__ == "__main__":
    unittest.main()
