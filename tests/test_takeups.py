import itertools
import random
import unittest

from kinds import Checks, is_integer, random_programs, wrong_values
from side_by_side import parts_at, wanted_there
from takenup.arrivals import arrivals
from takenup.blocks import Block, Here
from takenup.errors import BadMachine, BadProgram, NoPlace, TooMany
from takenup.items import Round, Skip
from takenup.look_alike import shows_parting
from takenup.machines import Machine
from takenup.pairs import Parting, pair_table
from takenup.papers import Denial, Paper
from takenup.programs import Program
from takenup.serving import options, serves
from takenup.standing import Standing, values_of
from takenup.stepping import run_shift, run_words
from takenup.sums import Sum
from takenup.takeups import Choice, Refused, RefusedRow, RefusedWord, TakenUp, choices, take_up, takeable
from takenup.targets import Target
from takenup.uses import uses, wanted

PATH = Program.read("x 0 ; on ; round ( x 4 ; here x 0 ) ; far x 0")
MANY = {"what": "nodes", "most": 2000}


def number_words_said(program, machine, place):
    """All that number words that are used can say: fewer words first, then by reading, unit and zero."""
    used = uses(program, place)
    rows = [(None, *values_of(name, machine)) if name in used else (None,) for name in Standing.NUMBER_NAMES]
    said = [Standing(**dict(zip(Standing.NUMBER_NAMES, values))) for values in itertools.product(*rows)]
    return sorted(said, key=len)


class ChoicesTest(Checks, unittest.TestCase):
    def test_by_options(self):
        chance = random.Random(211)
        many = []
        for axes, zeros in ((1, 1), (2, 2), (1, 3)):
            machine = Machine(axes, zeros)
            for program in random_programs(211 + zeros, 40, depth=3, axes=axes, zeros=zeros):
                place = chance.randint(0, program.end)
                expected = []
                for words in number_words_said(program, machine, place):
                    told = tuple(options(program, machine, place, words, axis) for axis in machine.axes)
                    if all(told):
                        expected.append(Choice(words, told))
                found = list(choices(program, machine, place))
                self.assertEqual(expected, found)
                self.assertTrue(all(type(choice) is Choice for choice in found))
                many.append(len(found))
        self.assertTrue(many.count(0) > 10 and max(many) > 3, many)

    def test_by_hand(self):
        told = [(str(choice.words), [[one and str(one) for one in row] for row in choice.options]) for choice in choices(
            PATH, Machine(1, 2), 2
        )]
        self.assertEqual([
            ("fine zero 0", [["z0"]]), ("far fine zero 0", [[None]]), ("on fine zero 0", [["z0"]]),
        ], told)

    def test_axes_that_no_block_names(self):
        """Each mark shows the positions of all axes, so hands must not leave them anywhere."""
        self.assertEqual([], list(choices(PATH, Machine(2, 2), 2)))
        program = Program.read("x 0 ; y 1 ; on ; round ( x 4 ; here x 0 ) ; far x 0")
        told = [
            (str(choice.words), [[one and str(one) for one in row] for row in choice.options])
            for choice in choices(program, Machine(2, 1), 3)
        ]
        self.assertEqual([
            ("fine", [["z0"], ["z0+5"]]), ("fine zero 0", [["z0"], ["z0+5"]]), ("far fine", [[None], ["z0+5"]]),
            ("on fine", [["z0"], ["z0+5"]]), ("far fine zero 0", [[None], ["z0+5"]]), ("on fine zero 0", [["z0"], ["z0+5"]]),
        ], told)

    def test_words_that_are_not_used_are_not_chosen(self):
        for place in range(PATH.end + 1):
            for choice in choices(PATH, Machine(1, 2), place):
                self.assertTrue(set(choice.words.said) <= set(uses(PATH, place)) & set(Standing.NUMBER_NAMES))

    def test_the_paper(self):
        told = Choice(options=[[None]], words=1)
        self.assertEqual((1, ((None,),)), (told.words, told.options))
        self.assertTrue(told == Paper("choice", 1, ((None,),)) and bool(told) and not isinstance(told, Denial))

    def test_wrong_arguments(self):
        machine = Machine(1, 2)
        for work in (choices, take_up, lambda program, machine, place: takeable(program, machine)):
            for value in wrong_values(lambda value: isinstance(value, Program)):
                self.check_error(BadProgram, {"part": "program"}, work, value, 9, 99)
            for value in wrong_values(lambda value: isinstance(value, Machine)):
                self.check_error(BadMachine, {"part": "machine"}, work, PATH, value, 99)
            self.check_error(BadMachine, {"part": "fit"}, work, Program.read("zero 2"), machine, 99)
        for work in (choices, take_up):
            for value in wrong_values(lambda value: is_integer(value) and 0 <= value <= PATH.end):
                self.check_error(NoPlace, {"place": value}, work, PATH, machine, value)


class TakeUpTest(Checks, unittest.TestCase):
    def test_example(self):
        program, machine = PATH, Machine(1, 2)
        told = [str(take_up(program, machine, 2).target), uses(program, 4), wanted(program, 2, "way")]
        self.assertEqual([
            "far fine zero 0 rapid ; -", ("zero", "way", "tool", "pace", "spindle"), (("rapid", (0, 1, 2), (2, 3)),)
        ], told)

    def least(self, program, machine, place):
        """The least target by all choices and all their options, None without any."""
        plain = Standing(**{name: row[0][0] for name in Standing.PLAIN_NAMES for row in [wanted(program, place, name)] if row})
        targets = []
        for choice in choices(program, machine, place):
            for sums in itertools.product(*choice.options):
                given = {axis: told for axis, told in zip(machine.axes, sums) if told is not None}
                targets.append(Target(choice.words | plain, **given))
        return min(targets, key=lambda target: (len(target), str(target)), default=None)

    def test_drawn_programs(self):
        chance = random.Random(212)
        found = []
        for axes, zeros in ((1, 1), (2, 2), (1, 3), (3, 1)):
            machine = Machine(axes, zeros)
            for program in random_programs(215 + 3 * axes + zeros, 45, depth=3, axes=axes, zeros=zeros):
                place = chance.randint(0, program.end)
                told = take_up(program, machine, place)
                found.append(told.word)
                doubled = [name for name in Standing.PLAIN_NAMES if len(wanted(program, place, name)) > 1]
                if doubled:
                    self.check_refused_word(told, program, place, doubled[0])
                elif told:
                    self.check_taken_up(told, program, machine, place)
                else:
                    self.assertIs(Refused, type(told))
                    self.assertEqual([], list(choices(program, machine, place)))
                    self.check_refused(told, program, machine, place)
        self.assertTrue(found.count("takenup") > 50 and found.count("refused") > 20, found)
        self.assertIn("refusedword", found)

    def check_taken_up(self, told, program, machine, place):
        self.assertIs(TakenUp, type(told))
        self.assertEqual(self.least(program, machine, place), told.target)
        self.assertEqual(serves(program, machine, place, told.target), told.served)
        self.assertTrue(told.served)
        for name in told.target.words.said:
            fewer = Target(told.target.words.with_word(name, None), **told.target.sums)
            self.assertFalse(serves(program, machine, place, fewer))
        for axis in told.target.axes:
            sums = {other: one for other, one in told.target.sums.items() if other != axis}
            self.assertFalse(serves(program, machine, place, Target(told.target.words, **sums)))

    def check_refused_word(self, told, program, place, name):
        items = wanted(program, place, name)
        self.assertEqual((RefusedWord, name, items[0], items[1]), (type(told), told.name, told.one, told.other))
        for value, run, run_on in (told.one, told.other):
            self.assertEqual((place, place, value), (run[-1], run_on[0], run_words(program, run)[name]))

    def check_refused(self, told, program, machine, place):
        self.assertEqual(list(Standing().fillings(machine)), [row.words for row in told.rows])
        for row in told.rows:
            self.assertIs(RefusedRow, type(row))
            self.check_refused_row(row, program, machine, place)

    def check_refused_row(self, row, program, machine, place):
        without = [axis for axis in machine.axes if not options(program, machine, place, row.words, axis)]
        self.assertEqual(without[0], row.axis)
        first, *others = row.partings
        self.assertTrue(all(type(one) is Parting and one.run[-1] == place for one in row.partings))
        self.assertTrue(shows_parting(program, machine, row.axis, row.words, None, first))
        self.assertTrue(parts_at(program, program, machine, row.axis, row.words, None, first))
        one, another, number = wanted_there(program, machine, row.axis, row.words, first)
        if another != "p":
            self.assertEqual([], others)
            return
        shift = run_shift(program, machine, first.run, row.axis)
        same = [name for name in machine.kept if shift[name].source == shift[one].source]
        self.assertEqual(len(same), len(others))
        for name, parting in zip(same, others):
            held = Sum(name, shift[one].number - shift[name].number - number)
            self.assertTrue(shows_parting(program, machine, row.axis, row.words, held, parting))
            self.assertTrue(parts_at(program, program, machine, row.axis, row.words, held, parting))
            openings = [(place, words, row.words, held) for words, _ in arrivals(program, place)]
            self.assertFalse(pair_table(program, machine, row.axis, openings))

    def test_refusals_by_hand(self):
        machine = Machine(1, 1)
        program = Program.read("skip ( here x 0 ) ; on ; x 1 ; far x 0")
        told = take_up(program, machine, 2)
        self.assertEqual(Refused, type(told))
        self.assertEqual(4, len(told.rows))
        program = Program.read("skip ( cut ) ; x 1")
        told = take_up(program, machine, 1)
        self.assertEqual(RefusedWord("way", ("rapid", (1,), (1, 2)), ("cut", (0, 1), (1, 2))), told)
        both = Program.read("cut ; skip ( pace 3 ) ; skip ( tool 2 ) ; x 1")
        self.assertEqual("tool", take_up(both, machine, 3).name)

    def test_takeable(self):
        for axes, zeros in ((1, 1), (2, 2)):
            machine = Machine(axes, zeros)
            for program in random_programs(221 + axes, 40, depth=3, axes=axes, zeros=zeros):
                expected = [place for place in range(program.end + 1) if take_up(program, machine, place)]
                self.assertEqual(expected, list(takeable(program, machine)))
                self.assertEqual(program.end, expected[-1])

    def test_kept_registers_of_the_same_number(self):
        program = Program.read("home x ; here x 0 ; zero 1 here x 0 ; on ; x 3 ; zero 0 here x 0")
        told = take_up(program, Machine(1, 2), 4)
        self.assertEqual("far fine rapid ; -", str(told.target))
        self.assertEqual(["o", "z0", "z1"], sorted(
            str(one) for one in options(program, Machine(1, 2), 4, Standing.read("on fine"), "x")
        ))

    def test_numbers_of_any_size(self):
        """Targets are chosen by their texts, also where Python refuses to write the numbers."""
        many, machine = 10 ** 5000, Machine(1, 2)
        lines = "home x ; here x 0 ; zero 1 here x 0 ; on ; x 3 ; x 4 ; here x 0"
        program = Program.read(lines).with_block(1, Block(None, Here(x=-many))).with_block(2, Block(Standing(zero=1), Here(x=many)))
        told = take_up(program, machine, 4)
        self.assertEqual(("on", "fine", "zero 1", "rapid", "x"), told.target.entries)
        found = options(program, machine, 4, Standing.read("on fine zero 1"), "x")
        self.assertEqual((Sum("z0", -5 * many), Sum("z1", 5 * many), Sum("o")), found)
        self.assertEqual(Sum("o"), told.target.sum_of("x"))
        self.assertEqual(list(range(program.end + 1)), list(takeable(program, machine)))

    def test_more_nodes(self):
        texts = ("far", "on", "fine", "coarse", "zero 0", "zero 1", "zero 2", "zero 3")
        skips = [Skip(Program.read(text)[0]) for text in texts]
        machine = Machine(1, 4)
        skips += [Skip(Block(Standing(way=way))) for way in ("cut", "rapid")]
        wide = Program(Block(), Round(*skips), *[Block()] * 6)
        self.check_error(TooMany, MANY, take_up, wide, machine, 0)
        self.assertEqual("- ; -", str(list(choices(wide, machine, 0))[0].words) + " ; -")
        self.assertEqual(list(range(wide.end + 1)), list(takeable(wide, machine)))

    def test_many_steps_six_deep(self):
        text = "x 1 ; skip ( here x 0 y 1 ; round ( on y -2 ; skip ( zero 1 lay x 1 ; round ( coarse cut ; far x 3 ) ) ) )"
        program = Program.read(f"far x 0 ; round ( round ( {text} ) ; skip ( {text} ) ; {text} ) ; {text} ; {text} ; zero 0")
        machine = Machine(3, 4)
        told = [take_up(program, machine, place) for place in range(program.end + 1)]
        self.assertEqual([place for place, paper in enumerate(told) if paper], list(takeable(program, machine)))
        self.assertEqual({"takenup", "refusedword"}, {paper.word for paper in told} - {"refused"})

    def test_the_papers(self):
        told = TakenUp(served=1, target=2)
        self.assertEqual((2, 1), (told.target, told.served))
        self.assertTrue(told == Paper("takenup", 2, 1) and bool(told) and not isinstance(told, Denial))
        told = RefusedWord(other=[1], one=[2], name=3)
        self.assertEqual((3, (2,), (1,)), (told.name, told.one, told.other))
        self.assertTrue(told == Paper("refusedword", 3, [2], [1]) and not told and isinstance(told, Denial))
        told = Refused(rows=[1])
        self.assertTrue(told.rows == (1,) and told == Paper("refused", (1,)) and not told and isinstance(told, Denial))
        told = RefusedRow(partings=[1], axis=2, words=3)
        self.assertEqual((3, 2, (1,)), (told.words, told.axis, told.partings))
        self.assertTrue(told == Paper("refusedrow", 3, 2, (1,)) and bool(told) and not isinstance(told, Denial))


if __name__ == "__main__":
    unittest.main()
