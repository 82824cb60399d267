import itertools
import random
import unittest

from kinds import Checks, any_values, is_integer, random_programs, wrong_values
from oracles import bends, holds, pairs_hold, unfixed
from plain_play import FIRST
from side_by_side import other_words_of, parts_at, program_with_one_other_block, spots, symbols
from takenup.alike import Alike, Unalike, alike, alike_at
from takenup.arrivals import nodes, plain_arrivals
from takenup.blocks import Block
from takenup.errors import (
    BadMachine, BadPaper, BadProgram, BadSum, BadWords, NoAxis, NoNode, NoPlace, TooMany,
)
from takenup.items import Round, Skip
from takenup.look_alike import shows_alike, shows_pairs, shows_parting, shows_plains, shows_unalike
from takenup.machines import Machine
from takenup.pairs import PairTable, Parting, PlainTable, pair_table, plain_table
from takenup.papers import Denial, Paper
from takenup.places import runs_of
from takenup.programs import Program
from takenup.standing import Standing
from takenup.stepping import run_words
from takenup.sums import Sum
from takenup.tables import Table, differences

PATH = Program.read("x 0 ; on ; round ( x 4 ; here x 0 ) ; far x 0")
ON = Standing.read("on fine zero 0 rapid")
FIRST_WORDS = Standing.first()
MANY = {"what": "nodes", "most": 2000}
# Pairs of programs of one shape that are alike although they differ.
ALIKE = [
    ("zero 1 ; zero 0 x 1", "- ; zero 0 x 1"), ("on ; round ( x 1 ; told 3 ( x 2 ) )", "on ; round ( on x 1 ; told 3 ( x 2 ) )"),
    ("coarse x 0", "x 0"), ("x 5 ; here x 5", "x 5 ; -"), ("home x ; here x 0 ; home x", "home x ; here x 0 ; far x 0"),
    ("x 127 ; on coarse x 5", "coarse x 5 ; on fine x 127"), ("pace 3 ; cut pace 2 x 1", "- ; cut pace 2 x 1"),
    ("skip ( x 1 ) ; round ( lay x 0 )", "skip ( x 1 ) ; round ( - )"), ("on x 2", "on x 2"),
    ("x 1 ; told 5 ( on x -1 ; far x 1 )", "x 1 ; told 5 ( on x -1 ; on x 1 )"),
]
# Pairs that part, with the name of the axis, None for a plain spot.
UNALIKE = [
    ("x 1", "here x 1", None), ("x 1", "cut x 1", None), ("cut x 1", "cut pace 1 x 1", None), ("x 1", "x 2", "x"),
    ("round ( on x 1 ; skip ( here x 0 ) ) ; far x 0", "round ( on x 1 ; skip ( here x 1 ) ) ; far x 0", "x"),
    ("round ( round ( round ( skip ( zero 1 ) ; x 0 ) ; here x 0 ) )", "round ( round ( round ( skip ( - ) ; x 0 ) ; here x 0 ) )", "x"),
    ("round ( skip ( x 1 ) ; round ( - ; coarse ) )", "round ( skip ( x 1 ) ; round ( - ; - ) )", "x"),
    ("round ( round ( cut ; skip ( pace 1 x 1 ) ; - ) ; skip ( x 2 ) )", "round ( round ( cut ; skip ( pace 1 x 1 ) ; pace 1 ) ; skip ( x 2 ) )", None),
    ("y 1 ; x 1", "y 1 ; x 1 y 2", "y"), ("told 1000000000000 ( x 1 ; lay x 1 )", "told 1000000000000 ( x 1 ; lay x 2 )", "x"),
    ("round ( skip ( tool 3 ) ; told 2 ( x 1 ; cut ) ; rapid )", "round ( skip ( - ) ; told 2 ( x 1 ; cut ) ; rapid )", None),
]


def limited_runs(program, most, limit, begin=None):
    return list(itertools.islice(runs_of(program, most, begin), limit))


def parts_on_some_run(program, second, machine, runs, words=None):
    """Whether the machines part on one of some runs, both begun alike."""
    begun = dict(FIRST if words is None else words)
    for run in runs:
        played = spots(program, second, machine, run, dict(begun), symbols(machine), dict(begun), symbols(machine))
        if any(not spot[4] == spot[5] for spot in played):
            return True
    return False


class AlikeTest(Checks, unittest.TestCase):
    def check_alike(self, program, machine, second, told, runs):
        if told:
            self.assertIs(Alike, type(told))
            self.assertFalse(parts_on_some_run(program, second, machine, runs))
            openings = [
                (start, FIRST_WORDS.node_words, FIRST_WORDS.number_words, Sum("p")) for start in program.starts
            ]
            pairs = [pair_table(program, machine, axis, openings, second) for axis in machine.axes]
            plain = FIRST_WORDS.plain_words
            plains = plain_table(program, [(start, plain, plain) for start in program.starts], second)
            self.assertEqual(Alike(pairs, plains), told)
            self.assertTrue(shows_alike(program, machine, second, told))
            self.assertTrue(shows_alike(program, machine, second, Alike(list(told.pairs), told.plains)))
        else:
            self.check_unalike(program, machine, second, told)

    def check_unalike(self, program, machine, second, told):
        self.assertIs(Unalike, type(told))
        self.assertEqual(1, len(told.parting.run))
        self.assertIn(told.parting.run[0], program.starts)
        self.assertTrue(shows_unalike(program, machine, second, told))
        self.assertTrue(parts_at(program, second, machine, told.axis, FIRST_WORDS, Sum("p"), told.parting))
        plain = FIRST_WORDS.plain_words
        plainly = plain_table(program, [(start, plain, plain) for start in program.starts], second)
        self.assertEqual(told.axis is None, not plainly)
        for axis in machine.axes[:machine.axes.index(told.axis)] if told.axis else ():
            openings = [
                (start, FIRST_WORDS.node_words, FIRST_WORDS.number_words, Sum("p")) for start in program.starts
            ]
            self.assertTrue(pair_table(program, machine, axis, openings, second))

    def test_by_hand(self):
        machine = Machine(2, 2)
        for one, other in ALIKE:
            for texts in ((one, other), (other, one)):
                program, second = [Program.read(text) for text in texts]
                told = alike(program, machine, second)
                self.assertTrue(told, texts)
                self.check_alike(program, machine, second, told, limited_runs(program, 5, 100))
        for one, other, axis in UNALIKE:
            for texts in ((one, other), (other, one)):
                program, second = [Program.read(text) for text in texts]
                told = alike(program, machine, second)
                self.assertFalse(told, texts)
                self.assertEqual(axis, told.axis)
                if "000" not in one:
                    self.check_unalike(program, machine, second, told)
                self.assertTrue(shows_unalike(program, machine, second, told))

    def test_drawn_programs_with_one_other_block(self):
        chance = random.Random(161)
        found = []
        for axes, zeros in ((1, 1), (2, 2)):
            machine = Machine(axes, zeros)
            for program in random_programs(160 + axes, 120, depth=3, axes=axes, zeros=zeros):
                second = program_with_one_other_block(chance, program, axes, zeros)
                told = alike(program, machine, second)
                found.append(told.word if program != second else "same")
                self.check_alike(program, machine, second, told, limited_runs(program, 5, 60))
                self.assertTrue(alike(program, machine, program))
        self.assertTrue(found.count("alike") > 20 and found.count("unalike") > 60, found.count("alike"))

    def test_alike_at(self):
        chance = random.Random(162)
        machine = Machine(2, 2)
        found = []
        for program in random_programs(163, 120, depth=3, axes=2):
            second = program_with_one_other_block(chance, program, 2, 2)
            place, words = chance.choice(list(nodes(program)))
            words = words | chance.choice(plain_arrivals(program, place))[0]
            if words.way != chance.choice([words.way, None, None]):
                words = chance.choice([words, Standing.first() | words])
            if not any((at, held) == (place, words.node_words) for at, held in nodes(program)):
                continue
            told = alike_at(program, machine, second, place, words)
            found.append(told.word)
            args = (program, machine, second)
            runs = limited_runs(program, 5, 60, place)
            if told:
                self.assertFalse(parts_on_some_run(program, second, machine, runs, words))
                self.assertTrue(shows_alike(*args, told, place, words))
                self.assertTrue(shows_alike(*args, words=words, value=told, place=place))
            else:
                self.assertTrue(shows_unalike(*args, told, place, words))
                self.assertEqual(place, told.parting.run[-1])
                self.assertTrue(parts_at(program, second, machine, told.axis, words, Sum("p"), told.parting))
                names = Standing.PLAIN_NAMES if told.axis is None else Standing.NODE_NAMES
                behind = run_words(program, told.parting.run)
                self.assertEqual([words[name] for name in names], [behind[name] for name in names])
        self.assertTrue(found.count("alike") > 30 and found.count("unalike") > 20, found)

    def test_alike_at_behind_what_is_other(self):
        program, second = Program.read("x 1 ; on x 2"), Program.read("x 2 ; on x 2")
        self.assertFalse(alike(program, Machine(), second))
        self.assertTrue(alike_at(program, Machine(), second, 1, FIRST_WORDS))
        self.assertTrue(alike_at(program, Machine(), second, 2, FIRST_WORDS | Standing(reading="on")))
        self.assertFalse(alike_at(program, Machine(), second, 0, FIRST_WORDS))

    def test_words_that_come_about_by_unlike_runs(self):
        program = Program.read("skip ( on ) ; skip ( pace 3 ) ; x 1")
        words = FIRST_WORDS | Standing.read("on pace 3")
        self.assertTrue(alike_at(program, Machine(), program, 2, words))
        self.assertTrue(alike_at(program, Machine(), program, 1, FIRST_WORDS | Standing.read("on")))
        self.check_error(NoNode, {"place": 1, "words": words}, alike_at, program, Machine(), program, 1, words)

    def test_more_nodes(self):
        skips = [Skip(Block(Standing(pace=at))) for at in range(1, 10)] + [Skip(Block(Standing(tool=at))) for at in range(1, 10)]
        exact, more = Program(Round(*skips), Block()), Program(Block(), Round(*skips), Block())
        self.assertEqual(2000, len(alike(exact, Machine(), exact).plains))
        self.check_error(TooMany, MANY, alike, more, Machine(), more)
        self.check_error(TooMany, MANY, alike_at, more, Machine(), more, 0, FIRST_WORDS)
        self.assertTrue(alike_at(more, Machine(), more, more.end, FIRST_WORDS | Standing(pace=3, tool=7)))
        told = alike(exact, Machine(), exact)
        self.assertTrue(shows_alike(exact, Machine(), exact, told))
        self.assertFalse(shows_alike(more, Machine(), more, told))
        self.check_error(BadWords, {"part": "words"}, shows_alike, more, Machine(), more, told, 1, None)

    def test_many_steps_six_deep(self):
        text = "x 1 ; skip ( here x 0 y 1 ; round ( on y -2 ; skip ( zero 1 lay x 1 ; round ( coarse cut ; far x 3 ) ) ) )"
        program = Program.read(f"here x 0 ; round ( round ( {text} ) ; skip ( {text} ) ; {text} ) ; {text} ; {text} ; zero 0")
        machine = Machine(3, 4)
        told = alike(program, machine, program)
        self.assertTrue(told and shows_alike(program, machine, program, told))
        second = program.with_block(20, Block.read("here w 1"))
        self.assertEqual("here x 0 y 1", str(program[20]))
        told = alike(program, machine, second)
        self.assertEqual("x", told.axis)
        self.assertTrue(shows_unalike(program, machine, second, told))

    def test_the_papers(self):
        told = Alike(plains="b", pairs=["a"])
        self.assertEqual((("a",), "b"), (told.pairs, told.plains))
        self.assertTrue(told == Paper("alike", ["a"], "b") and bool(told) and not isinstance(told, Denial))
        told = Unalike(axis="x", parting=[1])
        self.assertEqual(((1,), "x"), (told.parting, told.axis))
        self.assertTrue(told == Paper("unalike", (1,), "x") and not told and isinstance(told, Denial))

    def test_wrong_arguments(self):
        machine = Machine(1, 2)
        at = [alike_at, lambda one, two, three, *rest: shows_alike(one, two, three, None, *rest),
              lambda one, two, three, *rest: shows_unalike(one, two, three, None, *rest)]
        none = [alike, lambda *args: shows_alike(*args, None), lambda *args: shows_unalike(*args, None)]
        works = [(work, (99, 99)) for work in at] + [(work, ()) for work in none]
        for work, rest in works:
            for value in wrong_values(lambda value: isinstance(value, Program)):
                self.check_error(BadProgram, {"part": "program"}, work, value, 9, 9, *rest)
            for value in wrong_values(lambda value: isinstance(value, Machine)):
                self.check_error(BadMachine, {"part": "machine"}, work, PATH, value, 9, *rest)
            self.check_error(BadMachine, {"part": "fit"}, work, Program.read("y 1"), machine, 9, *rest)
            for value in wrong_values(lambda value: isinstance(value, Program)):
                self.check_error(BadProgram, {"part": "second"}, work, PATH, machine, value, *rest)
            self.check_error(BadProgram, {"part": "shape"}, work, PATH, machine, Program.read("y 1"), *rest)
            for block in ("y 0", "zero 2"):
                second = PATH.with_block(0, Block.read(block))
                self.check_error(BadMachine, {"part": "fit"}, work, PATH, machine, second, *rest)
        for work in at:
            for value in wrong_values(lambda value: is_integer(value) and 0 <= value <= PATH.end):
                if value is not None or work is alike_at:
                    self.check_error(NoPlace, {"place": value}, work, PATH, machine, PATH, value, 9)
            full = [FIRST_WORDS | Standing(zero=2), FIRST_WORDS.node_words, FIRST_WORDS.with_word("pace", None)]
            for value in wrong_values(lambda value: isinstance(value, Standing) and value.is_full) + full:
                self.check_error(BadWords, {"part": "words"}, work, PATH, machine, PATH, 0, value)
            for words in (FIRST_WORDS | ON, FIRST_WORDS | Standing(pace=1), FIRST_WORDS | Standing(way="cut")):
                if words != FIRST_WORDS:
                    self.check_error(NoNode, {"place": 0, "words": words}, work, PATH, machine, PATH, 0, words)


class LooksTest(Checks, unittest.TestCase):
    def test_bent_pair_tables(self):
        chance = random.Random(164)
        taken = refused = 0
        for program in [PATH] + random_programs(165, 14, depth=3):
            machine = Machine(1, 2)
            table = differences(program, machine)
            place, words = chance.choice(list(nodes(program)))
            openings = [(place, words, words.number_words, Sum("p"))]
            told = pair_table(program, machine, "x", openings)
            values = list(bends(told.rows))
            for value in chance.sample(values, min(120, len(values))):
                paper = PairTable("x", value)
                shown = shows_pairs(program, machine, "x", openings, paper)
                self.assertIs(holds(pairs_hold, program, machine, "x", openings, paper, program, table), shown)
                self.assertIs(shown, shows_pairs(program, machine, "x", openings, PairTable("x", unfixed(value)), None, table))
                taken, refused = taken + shown, refused + (not shown)
        self.assertTrue(taken > 5 and refused > 500, (taken, refused))

    def test_pair_tables_with_fewer_triples_and_more_rows(self):
        machine = Machine(1, 2)
        openings = [(2, ON, Standing.read("far fine zero 0"), None)]
        told = pair_table(PATH, machine, "x", openings)
        args = (PATH, machine, "x", openings)
        self.assertTrue(shows_pairs(*args, told))
        rows = [row[:3] + (tuple(triple for triple in row[3] if triple[:2] != ("s", "s")),) for row in told.rows]
        self.assertTrue(shows_pairs(*args, PairTable("x", rows[::-1])))
        rows = [row[:3] + (row[3][::-1],) for row in told.rows]
        self.assertTrue(shows_pairs(*args, PairTable("x", rows)))
        extra = (5, "on coarse zero 1 cut", "on coarse zero 1", (("p", "s", 77),))
        self.assertTrue(shows_pairs(*args, PairTable("x", told.rows + (extra,))))
        for row in (
            (4, "on coarse zero 1 cut", "on coarse zero 1", ()), extra[:3] + ((("p", "z2", 1),),), extra[:3] + ((("p", "s", True),),),
            (6,) + extra[1:], (5, "on coarse zero 2 cut") + extra[2:], extra[:2] + ("on coarse zero 2", ()),
            extra[:3] + (extra[3] * 2,), extra + (1,), told.rows[0], (5, "on coarse zero 1", "on coarse zero 1", ()),
        ):
            self.assertFalse(shows_pairs(*args, PairTable("x", told.rows + (row,))))
        self.assertFalse(shows_pairs(*args, PairTable("y", told.rows)))
        self.assertFalse(shows_pairs(*args, Paper("pairtable", "x", told.rows)))

    def test_the_table_of_differences(self):
        machine = Machine(1, 2)
        openings = [(2, ON, Standing.read("far fine zero 0"), None), (3, ON, ON.number_words, Sum("z0", 20))]
        told = pair_table(PATH, machine, "x", openings)
        table = differences(PATH, machine)
        args = (PATH, machine, "x", openings, told, None)
        self.assertTrue(shows_pairs(*args, table))
        part = Table([row for row in table.rows if row[0] in (2, 3)])
        self.assertTrue(shows_pairs(*args, part))
        wider = differences(PATH, Machine(2, 4))
        self.assertTrue(shows_pairs(*args, wider))
        apart = tuple(((name, 0),) for name in machine.registers)
        self.assertFalse(shows_pairs(*args, Table([row[:3] + (apart,) for row in table.rows])))
        missing = [
            Table(()), Table([row for row in table.rows if row[0] != 3]), differences(PATH, Machine(1, 1)),
            Table([row[:2] + ("y", row[3]) for row in table.rows]), Table([row[:3] + (row[3][1:],) for row in table.rows]),
        ]
        for value in wrong_values(lambda value: value is None) + missing + [Paper("table", table.rows)]:
            self.check_error(BadPaper, {"part": "table"}, shows_pairs, *args, value)
        self.check_error(BadProgram, {"part": "second"}, shows_pairs, PATH, machine, "x", openings, told, 5, 5)

    def test_any_value(self):
        machine = Machine(1, 2)
        openings = [(2, ON, Standing.read("far fine zero 0"), None)]
        told = pair_table(PATH, machine, "x", openings)
        plain = FIRST_WORDS.plain_words
        plains = plain_table(PATH, [(0, plain, plain)])
        parting = pair_table(PATH, machine, "x", [(3, ON, ON.number_words, None)])
        whole = alike(PATH, machine, PATH)
        second = PATH.with_block(2, Block.read("x 5"))
        parted = alike(PATH, machine, second)
        for value in any_values():
            self.assertIs(False, shows_pairs(PATH, machine, "x", openings, value))
            self.assertIs(False, shows_plains(PATH, [(0, plain, plain)], value))
            self.assertIs(False, shows_pairs(PATH, machine, "x", openings, PairTable("x", told.rows + (value,))))
            self.assertIs(False, shows_plains(PATH, [(0, plain, plain)], PlainTable(plains.rows + (value,))))
            self.assertIs(False, shows_parting(PATH, machine, "x", ON.number_words, None, value))
            self.assertIs(False, shows_alike(PATH, machine, PATH, value))
            self.assertIs(False, shows_unalike(PATH, machine, second, value))
            for row_at, at in itertools.product(range(2), range(4)):
                row = told.rows[row_at]
                if value == row[at]:
                    continue
                bent = told.rows[:row_at] + (row[:at] + (value,) + row[at + 1:],) + told.rows[row_at + 1:]
                self.assertIs(False, shows_pairs(PATH, machine, "x", openings, PairTable("x", bent)))
            self.assertIs(False, shows_alike(PATH, machine, PATH, Alike(value, whole.plains)))
            self.assertIs(False, shows_alike(PATH, machine, PATH, Alike(whole.pairs, value)))
            self.assertIs(False, shows_alike(PATH, machine, PATH, Alike((value,), whole.plains)))
            if value != parted.axis:
                self.assertIs(False, shows_unalike(PATH, machine, second, Unalike(parted.parting, value)))
            self.assertIs(False, shows_unalike(PATH, machine, second, Unalike(value, parted.axis)))
            for at in range(4):
                bent = Parting(*parting.parts[:at], value, *parting.parts[at + 1:])
                if bent != parting:
                    self.assertIs(False, shows_parting(PATH, machine, "x", ON.number_words, None, bent))

    def test_bent_plain_tables(self):
        chance = random.Random(166)
        taken = refused = 0
        for program in random_programs(167, 30, depth=3):
            plain = FIRST_WORDS.plain_words
            openings = [(start, plain, plain) for start in program.starts]
            told = plain_table(program, openings)
            self.assertTrue(shows_plains(program, openings, PlainTable(unfixed(told.rows)[::-1])))
            for at, row in enumerate(told.rows):
                self.assertFalse(shows_plains(program, openings, PlainTable(told.rows[:at] + told.rows[at + 1:])))
                self.assertFalse(shows_plains(program, openings, PlainTable(told.rows + (row,))))
            values = list(bends(told.rows))
            for value in chance.sample(values, min(40, len(values))):
                shown = shows_plains(program, openings, PlainTable(value))
                taken, refused = taken + shown, refused + (not shown)
                if shown:
                    self.assertTrue({row for row in told.rows} <= set(value))
        self.assertGreater(refused, 500)
        self.assertGreater(taken, 20)

    def test_plain_tables_with_more_rows(self):
        program = Program.read("x 1 ; skip ( cut ) ; x 2")
        plain = FIRST_WORDS.plain_words
        openings = [(0, plain, plain)]
        told = plain_table(program, openings)
        end = (3, "cut tool 7 pace 99 turning", "-")
        self.assertTrue(shows_plains(program, openings, PlainTable(told.rows + (end,))))
        for row in (
            (2,) + end[1:], (4,) + end[1:], (3, "cut tool 7 pace 99", "-"), (3, end[1], "on"), (3, end[1]), (True,) + end[1:],
            (0, str(plain), "rapid"), end + (1,),
        ):
            self.assertIs(row == (0, str(plain), "rapid") and False, shows_plains(program, openings, PlainTable(told.rows + (row,))))
        self.assertFalse(shows_plains(program, openings, Paper("plaintable", told.rows)))


class PartingsTest(Checks, unittest.TestCase):
    def check(self, program, second, axis, other, held, parting, machine):
        """The look tells just what playing tells."""
        told = shows_parting(program, machine, axis, other, held, parting, second)
        self.assertIs(parts_at(program, second, machine, axis, other, held, parting) is True, told)
        return told

    def test_all_spots_of_runs_on_of_few_steps(self):
        chance = random.Random(168)
        machine = Machine(2, 2)
        shown = 0
        for program in random_programs(169, 60, depth=3, axes=2, most=2):
            second = program_with_one_other_block(chance, program, 2, 2)
            run = chance.choice(limited_runs(program, 3, 30))
            run_on = chance.choice(limited_runs(program, 3, 60, run[-1]))
            words, held = run_words(program, run), chance.choice([None, Sum("p"), Sum("z0", 5), Sum("o")])
            other = words if chance.random() < 0.7 else chance.choice(list(Standing().fillings(machine)))
            other = other.with_word("tool", chance.choice([None, other.tool]))
            words_now, numbers = dict(words), symbols(machine)
            played = list(spots(
                program, second, machine, run_on, words_now, numbers, other_words_of(other), symbols(machine)
            ))
            for run_on_part, inside, what, axis, _, _ in chance.sample(played, min(25, len(played))):
                parting = Parting(list(run), list(run_on_part), list(inside), what)
                asked = other.plain_words if axis is None else other_words_numbers(other)
                shown += self.check(program, second, axis, asked, held, parting, machine)
                for bent in bends((inside, what)):
                    value = Parting(run, run_on_part, *bent) if len(bent) == 2 else None
                    self.assertIn(shows_parting(program, machine, axis, asked, held, value, second), (True, False))
        self.assertGreater(shown, 50)

    def test_what_is_not_compared(self):
        machine = Machine(1, 1)
        program = Program.read("x 1 ; cut x 1 ; here x 1 ; told 3 ( x 1 ; told 2 ( y 1 ) )".replace("y 1", "x 2"))
        other, plain = Standing.read("on coarse zero 0"), Standing.read("cut tool 1 pace 1 turning")
        places = {(0, 1): (), (0, 1, 2): (), (0, 1, 2, 3): (), (0, 1, 2, 3, 4): (2, 1, 1, 0)}
        told = []
        for run_on, inside in places.items():
            row = [what for what in ("begins", "ends", "z0", "z1", "o", "mark", "way", "p", "") if shows_parting(
                program, machine, "x", other, None, Parting((0,), run_on, inside, what))]
            row += [what for what in ("mark", "way", "tool", "pace", "spindle", "ends", "z0", "zero") if shows_parting(
                program, machine, None, plain, None, Parting((0,), run_on, inside, what))]
            told.append(row)
        self.assertEqual([
            ["ends", "way"], ["begins", "ends", "tool", "pace", "spindle"], ["z0"],
            ["begins", "ends", "z0", "tool", "pace", "spindle"],
        ], told)

    def test_inside(self):
        machine = Machine(1, 1)
        program = Program.read("told 1000000000000 ( x 1 ; told 5 ( lay x 1 ) )")
        other = Standing.read("on fine zero 0")
        args = (program, machine, "x", other, None)
        for inside, what, shown in (
            ((0, 0), "ends", True), ((10 ** 12 - 1, 0), "ends", True), ((10 ** 12, 0), "ends", False), ((-1, 0), "ends", False),
            ((0,), "ends", False), ((), "ends", False), ((0, 1), "z0", False), ((0, 1, 4, 0), "z0", False), ((0, 1, 5, 0), "z0", False),
            ((0, 0, 0, 0), "ends", False), ((True, 0), "ends", False), ((0, 2), "ends", False), ((0, 0), "begins", False),
        ):
            self.assertIs(shown, shows_parting(*args, Parting((0,), (0, 1), inside, what)), inside)
        second = Program.read("told 1000000000000 ( x 1 ; told 5 ( lay x 2 ) )")
        far = Standing.read("far fine zero 0")
        for inside in ((0, 1, 0, 0), (10 ** 12 - 1, 1, 4, 0), (7, 1, 3, 0)):
            self.assertTrue(shows_parting(program, machine, "x", far, None, Parting((0,), (0, 1), inside, "z0"), second))
        self.assertFalse(shows_parting(program, machine, "x", far, None, Parting((0,), (0, 1), (0, 0), "ends"), second))
        self.assertTrue(shows_parting(program, machine, "x", far, None, Parting((0,), (0, 1), (1, 0), "ends"), second))

    def test_runs(self):
        machine = Machine(1, 2)
        parting = pair_table(PATH, machine, "x", [(3, ON, ON.number_words, None)])
        args = (PATH, machine, "x", ON.number_words, None)
        self.assertTrue(shows_parting(*args, parting))
        run, run_on, inside, what = parting.parts
        for bent in ((1,) + run[1:], run[:-1], (), run + (9,), [list(run)], None):
            self.assertFalse(shows_parting(*args, Parting(bent, run_on, inside, what)))
        for bent in (run_on[:1], (), run_on[1:], run_on + (9,), (True,) + run_on[1:], None):
            self.assertFalse(shows_parting(*args, Parting(run, bent, inside, what)))
        self.assertFalse(shows_parting(*args, Paper("parting", *parting.parts)))

    def test_wrong_arguments(self):
        machine = Machine(1, 2)
        for value in wrong_values(lambda value: isinstance(value, Program)):
            self.check_error(BadProgram, {"part": "program"}, shows_parting, value, 9, 9, 9, 9, None, 9)
        for value in wrong_values(lambda value: isinstance(value, Machine)):
            self.check_error(BadMachine, {"part": "machine"}, shows_parting, PATH, value, 9, 9, 9, None, 9)
        self.check_error(BadMachine, {"part": "fit"}, shows_parting, Program.read("y 1"), machine, 9, 9, 9, None, 9)
        for value in wrong_values(lambda value: value is None or isinstance(value, str) and value == "x"):
            self.check_error(NoAxis, {"axis": value}, shows_parting, PATH, machine, value, 9, 9, None, 9)
        for value in any_values() + [ON, Standing(zero=0), ON.number_words | Standing(zero=2)]:
            self.check_error(BadWords, {"part": "other"}, shows_parting, PATH, machine, "x", value, 9, None, 9)
        for value in wrong_values(lambda value: isinstance(value, Standing) and len(value) == 0) + [ON, FIRST_WORDS]:
            self.check_error(BadWords, {"part": "other"}, shows_parting, PATH, machine, None, value, 9, None, 9)
        good = ON.number_words
        for value in wrong_values(lambda value: value is None or isinstance(value, Sum)) + [Sum("z2")]:
            self.check_error(BadSum, {"part": "held"}, shows_parting, PATH, machine, "x", good, value, None, 9)
        for axis, other, held in (("x", good, None), (None, Standing(), 9)):
            for value in wrong_values(lambda value: value is None or isinstance(value, Program)):
                self.check_error(BadProgram, {"part": "second"}, shows_parting, PATH, machine, axis, other, held, None, value)
            self.check_error(
                BadProgram, {"part": "shape"}, shows_parting, PATH, machine, axis, other, held, None, Program.read("y 1")
            )
            second = PATH.with_block(1, Block.read("y 1"))
            self.check_error(BadMachine, {"part": "fit"}, shows_parting, PATH, machine, axis, other, held, None, second)


def other_words_numbers(other):
    """The number words, for a machine on which all are said."""
    return other.number_words


if __name__ == "__main__":
    unittest.main()
