import itertools
import random
import unittest

from kinds import Checks, any_values, is_integer, random_programs, wrong_values
from oracles import bends, holds, need, need_integer, unfixed
from plain_play import FIRST, do_run, marks_of_step
from side_by_side import blocks_in_play, is_marking, symbols, wanted_there
from takenup.arrivals import arrivals, plain_arrivals
from takenup.blocks import Block
from takenup.errors import BadMachine, BadProgram, BadTarget, NoPlace
from takenup.items import Round, Skip
from takenup.look_alike import shows_pairs, shows_parting, shows_plains
from takenup.look_tables import shows_table
from takenup.look_takeups import shows_refused, shows_served, shows_taken, shows_unserved
from takenup.machines import Machine
from takenup.pairs import PairTable, Parting, PlainTable
from takenup.papers import Paper
from takenup.places import is_run, least_run, runs_of
from takenup.programs import Program
from takenup.serving import Served, Unserved, serves
from takenup.standing import Standing, values_of
from takenup.stepping import run_shift, run_words
from takenup.sums import Sum
from takenup.tables import Table
from takenup.takeups import Refused, RefusedRow, RefusedWord, TakenUp, take_up
from takenup.targets import Target
from takenup.uses import wanted

PATH = Program.read("x 0 ; on ; round ( x 4 ; here x 0 ) ; far x 0")
MACHINE = Machine(1, 2)
PARTS = ("mark", "way", "tool", "pace", "spindle")
WORDY = ("cut", "rapid", "pace 3", "tool 1", "x 1", "cut x 1", "-", "turning")


def wordy_programs(seed, many):
    """Programs in which plain words come about in several ways, with a cut behind."""
    chance = random.Random(seed)
    for _ in range(many):
        a, b, c, d, e = [Block.read(chance.choice(WORDY)) for _ in range(5)]
        yield Program(a, Skip(b), Skip(c, Block()), Round(Skip(d), Block()), e, Block.read(chance.choice(("cut x 1", "x 1"))))


def served_holds(program, machine, place, value):
    """The conditions of a Served, by the looks at its tables."""
    need(type(value) is Served and type(value.place) is int and value.place == place)
    target = value.target
    need(type(target) is Target and target.fits(machine))
    need(shows_table(program, machine, value.table))
    need(all((place, words) in value.table for words, _ in arrivals(program, place)))
    need(type(value.pairs) is tuple and len(value.pairs) == len(machine.axes))
    for axis, pairs in zip(machine.axes, value.pairs):
        openings = [
            (place, words, filling, target.sum_of(axis)) for words, _ in arrivals(program, place)
            for filling in target.words.number_words.fillings(machine)
        ]
        need(shows_pairs(program, machine, axis, openings, pairs, None, value.table))
    plains = [(place, words, target.words.plain_words) for words, _ in plain_arrivals(program, place)]
    need(shows_plains(program, plains, value.plains))


def stands_at(program, place, parting):
    return type(parting) is Parting and is_run(program, parting.run) and parting.run[-1] == place


def unserved_holds(program, machine, place, target, value):
    need(type(value) is Unserved and stands_at(program, place, value.parting))
    if value.part in PARTS:
        need(value.words == Standing() and value.parting.what == value.part)
        need(shows_parting(program, machine, None, target.words.plain_words, None, value.parting))
    else:
        need(value.part in machine.axes and value.words in list(target.words.number_words.fillings(machine)))
        need(shows_parting(program, machine, value.part, value.words, target.sum_of(value.part), value.parting))


def shows_first(program, place, words, run_on, name):
    """Whether the step of a run on's last place but one is the first with a mark that shows a word, none has said it."""
    shown, said = [], False
    for at in run_on[:-1]:
        shown.append(False)
        for _, block in blocks_in_play(program[at], 3):
            said = said or name in block.words.said
            words = words | block.words
            if is_marking(block) and not said and (name == "way" or words.way == "cut"):
                shown[-1] = True
    return any(shown) and shown.index(True) == len(run_on) - 2


def refused_word_holds(program, place, value):
    need(type(value) is RefusedWord and value.name in Standing.PLAIN_NAMES)
    values = []
    for told, run, run_on in (value.one, value.other):
        need(type(told) is str or type(told) is int)
        need(is_run(program, run) and run[-1] == place and run_words(program, run)[value.name] == told)
        need(is_run(program, run_on, place) and len(run_on) > 1)
        need(shows_first(program, place, run_words(program, run), run_on, value.name))
        values.append(told)
    need(values[0] != values[1])


def refused_holds(program, machine, place, value):
    need(type(value) is Refused and type(value.rows) is tuple)
    fillings = list(Standing().fillings(machine))
    need(len(fillings) == len(value.rows))
    for words, row in zip(fillings, value.rows):
        need(type(row) is RefusedRow and type(row.words) is Standing and row.words == words)
        need(row.axis in machine.axes and type(row.partings) is tuple)
        need(all(stands_at(program, place, parting) for parting in row.partings))
        first = row.partings[0]
        need(shows_parting(program, machine, row.axis, words, None, first))
        one, another, number = wanted_there(program, machine, row.axis, words, first)
        if another == "p":
            shift = run_shift(program, machine, first.run, row.axis)
            for name in machine.kept:
                if shift[name].source == shift[one].source:
                    held = Sum(name, shift[one].number - shift[name].number - number)
                    need(any(
                        shows_parting(program, machine, row.axis, words, held, parting) for parting in row.partings
                    ))


def with_part(paper, at, value):
    parts = list(paper.parts)
    parts[at] = value
    return type(paper)(*parts)


def bent_tables(chance, paper, many):
    """Papers in which one table has some row that is bent, left out, doubled or exchanged."""
    values = list(bends(paper.rows))
    values = chance.sample(values, min(many, len(values)))
    return [PairTable(paper.axis, rows) if type(paper) is PairTable else type(paper)(rows) for rows in values]


def listed(paper):
    """The paper, and those in it, made with lists for all tuples."""
    if isinstance(paper, Paper):
        return type(paper)(*[listed(part) for part in paper.parts])
    return [listed(part) for part in paper] if type(paper) is tuple else paper


class ServedTest(Checks, unittest.TestCase):
    def test_what_serves_tells(self):
        chance = random.Random(301)
        shown = 0
        for axes, zeros in ((1, 1), (2, 2), (1, 3), (3, 1)):
            machine = Machine(axes, zeros)
            for program in random_programs(301 + 2 * axes + zeros, 25, depth=3, axes=axes, zeros=zeros):
                place = chance.randint(0, program.end)
                told = take_up(program, machine, place)
                if not told:
                    continue
                shown += 1
                self.assertIs(True, shows_served(program, machine, place, told.served))
                self.assertIs(True, shows_served(program, machine, place, listed(told.served)))
                self.assertIs(True, shows_taken(program, machine, place, told))
                self.assertIs(True, shows_taken(program, machine, place, listed(told)))
                served = told.served
                turned = Served(place, served.target, Table(served.table.rows[::-1]), [
                    PairTable(table.axis, [row[:3] + (row[3][::-1],) for row in table.rows[::-1]]) for table in served.pairs
                ], PlainTable(served.plains.rows[::-1]))
                self.assertIs(True, shows_taken(program, machine, place, TakenUp(told.target, turned)))
                for other in range(program.end + 1):
                    if other != place:
                        self.assertIs(False, shows_served(program, machine, other, served))
                        self.assertIs(False, shows_taken(program, machine, other, told))
                        moved = with_part(served, 0, other)
                        self.assertIs(holds(served_holds, program, machine, other, moved), shows_served(
                            program, machine, other, moved))
        self.assertGreater(shown, 40)

    def test_bent_papers(self):
        chance = random.Random(302)
        taken = refused = 0
        for program in [PATH] + random_programs(303, 25, depth=2, axes=2):
            machine = Machine(2, 2)
            place = chance.randint(0, program.end)
            told = take_up(program, machine, place)
            if not told:
                continue
            served = told.served
            bent = [with_part(served, at, table) for at in (2, 4) for table in bent_tables(chance, served.parts[at], 9)]
            for at, table in enumerate(served.pairs):
                for other in bent_tables(chance, table, 8):
                    bent.append(with_part(served, 3, served.pairs[:at] + (other,) + served.pairs[at + 1:]))
            bent += [with_part(served, 3, pairs) for pairs in (served.pairs[::-1], served.pairs[1:], served.pairs * 2, ())]
            for value in bent:
                shown = shows_served(program, machine, place, value)
                self.assertIs(holds(served_holds, program, machine, place, value), shown)
                taken, refused = taken + shown, refused + (not shown)
        self.assertTrue(taken > 5 and refused > 120, (taken, refused))

    def test_other_targets(self):
        """The tables show just what the target of the Served leaves open."""
        chance = random.Random(304)
        found = []
        for program in random_programs(305, 40, depth=3):
            place = chance.randint(0, program.end)
            told = take_up(program, MACHINE, place)
            if told:
                for name in Standing.NAMES:
                    for value in (None, *values_of(name, MACHINE)[:3]):
                        target = Target(told.target.words.with_word(name, value), **told.target.sums)
                        paper = with_part(told.served, 1, target)
                        shown = shows_served(program, MACHINE, place, paper)
                        self.assertIs(holds(served_holds, program, MACHINE, place, paper), shown)
                        self.assertIs(shown, shows_taken(program, MACHINE, place, TakenUp(target, paper)))
                        if target != told.target:
                            self.assertFalse(shows_taken(program, MACHINE, place, TakenUp(target, told.served)))
                        found.append(shown)
                for held in (None, Sum("z0"), Sum("o", 5), Sum("s")):
                    sums = {} if held is None else {"x": held}
                    paper = with_part(told.served, 1, Target(told.target.words, **sums))
                    self.assertIs(holds(served_holds, program, MACHINE, place, paper), shows_served(
                        program, MACHINE, place, paper))
        self.assertTrue(found.count(True) > 30 and found.count(False) > 100)

    def test_any_value(self):
        told = take_up(PATH, MACHINE, 2)
        others = [Paper("served", *told.served.parts), told.served.parts, 2.0]
        for value in any_values() + others:
            self.assertIs(False, shows_served(PATH, MACHINE, 2, value))
            self.assertIs(False, shows_taken(PATH, MACHINE, 2, value))
            for at in range(5):
                if at != 0 or type(value) is not int or value != 2:
                    self.assertIs(False, shows_served(PATH, MACHINE, 2, with_part(told.served, at, value)))
            self.assertIs(False, shows_served(PATH, MACHINE, 2, with_part(told.served, 3, (value,))))
            self.assertIs(False, shows_taken(PATH, MACHINE, 2, TakenUp(told.target, value)))
            self.assertIs(False, shows_taken(PATH, MACHINE, 2, TakenUp(value, told.served)))
        self.assertTrue(shows_taken(PATH, MACHINE, 2, told))
        self.assertFalse(shows_taken(PATH, MACHINE, 2, Paper("takenup", *told.parts)))
        one = take_up(PATH, MACHINE, 1)
        self.assertTrue(shows_served(PATH, MACHINE, 1, one.served))
        self.assertFalse(shows_served(PATH, MACHINE, 1, with_part(one.served, 0, True)))
        self.assertFalse(shows_served(PATH, MACHINE, 1, with_part(one.served, 0, 1.0)))
        wide = Target(Standing(zero=2), y=Sum("o"))
        self.assertFalse(shows_served(PATH, MACHINE, 5, Served(5, wide, *serves(PATH, MACHINE, 5, Target()).parts[2:])))

    def test_more_plain_words_than_are_counted(self):
        """The looks tell no TooMany."""
        plains = [Skip(Block(Standing(pace=at))) for at in range(1, 10)] + [Skip(Block(Standing(tool=at))) for at in range(1, 10)]
        program = Program(Block(), Round(*plains), Block())
        small = serves(PATH, MACHINE, 5, Target())
        for place in (0, 2, 20):
            self.assertIs(False, shows_served(program, MACHINE, place, small))
            self.assertIs(False, shows_taken(program, MACHINE, place, TakenUp(small.target, small)))
            self.assertIs(False, shows_unserved(program, MACHINE, place, Target(), serves(PATH, MACHINE, 2, Target())))
            self.assertIs(False, shows_refused(program, MACHINE, place, take_up(PATH, MACHINE, 2)))

    def test_all_plain_words_must_have_rows(self):
        """Also where many come about: a table of all of them, made by hand, is taken."""
        skips = [Skip(Block(Standing(pace=at))) for at in range(1, 8)] + [Skip(Block(Standing(tool=at))) for at in range(1, 8)]
        program = Program(Round(*skips), Block(Standing(tool=9)), Block())
        end = program.end
        told = serves(program, MACHINE, end, Target())
        rows = sorted(told.plains.rows)
        self.assertEqual(8, len(rows))
        self.assertTrue(shows_served(program, MACHINE, end, with_part(told, 4, PlainTable(rows))))
        for at in range(len(rows)):
            self.assertFalse(shows_served(program, MACHINE, end, with_part(told, 4, PlainTable(rows[:at] + rows[at + 1:]))))


class UnservedTest(Checks, unittest.TestCase):
    def test_what_serves_tells(self):
        chance = random.Random(306)
        found = []
        for axes, zeros in ((1, 1), (2, 2)):
            machine = Machine(axes, zeros)
            for program in random_programs(306 + zeros, 60, depth=3, axes=axes, zeros=zeros):
                place = chance.randint(0, program.end)
                words = Standing(**{name: chance.choice([None, *values_of(name, machine)[:2]]) for name in Standing.NAMES})
                sums = {axis: Sum(chance.choice(machine.kept)) for axis in machine.axes if chance.random() < 0.5}
                target = Target(words, **sums)
                told = serves(program, machine, place, target)
                if told:
                    self.assertIs(False, shows_unserved(program, machine, place, target, told))
                    continue
                found.append(told.part)
                self.assertIs(True, shows_unserved(program, machine, place, target, told))
                self.assertIs(True, shows_unserved(program, machine, place, target, listed(told)))
                self.check_bent(program, machine, place, target, told)
        self.assertTrue({"x", "y", "way"} <= set(found), found)

    def check_bent(self, program, machine, place, target, told):
        run, run_on, inside, what = told.parting.parts
        bent = [Parting(*parts) for parts in bends(told.parting.parts) if len(parts) == 4]
        values = [with_part(told, 2, parting) for parting in bent]
        values += [with_part(told, 0, part) for part in ("x", "y", "w", *PARTS, "ends", True, 0)]
        values += [with_part(told, 1, words) for words in (
            Standing(), Standing.first(), Standing.first().number_words, *Standing().fillings(machine), 0
        )]
        for value in values:
            self.assertIs(holds(unserved_holds, program, machine, place, target, value), shows_unserved(
                program, machine, place, target, value))
        for other in range(program.end + 1):
            if other != place:
                self.assertIs(False, shows_unserved(program, machine, other, target, told))
        for other in (Target(), target | Target(Standing.first()), Target(target.words, x=Sum("o", 77))):
            self.assertIs(holds(unserved_holds, program, machine, place, other, told), shows_unserved(
                program, machine, place, other, told))

    def test_any_value(self):
        target = Target.read("fine zero 0 rapid ; -")
        told = serves(PATH, MACHINE, 2, target)
        self.assertEqual("x", told.part)
        plain = serves(PATH, MACHINE, 2, Target())
        self.assertEqual("way", plain.part)
        for value in any_values() + [Paper("unserved", *told.parts), told.parts]:
            self.assertIs(False, shows_unserved(PATH, MACHINE, 2, target, value))
            for at in range(3):
                if not (at == 0 and value == "x"):
                    self.assertIs(False, shows_unserved(PATH, MACHINE, 2, target, with_part(told, at, value)))
                if not (at == 1 and isinstance(value, Standing) and len(value) == 0):
                    self.assertIs(False, shows_unserved(PATH, MACHINE, 2, Target(), with_part(plain, at, value)))
        self.assertFalse(shows_unserved(PATH, MACHINE, 2, target, with_part(told, 1, Standing.read("far fine zero 0"))))
        self.assertFalse(shows_unserved(PATH, MACHINE, 2, target, with_part(told, 1, Standing.read("on coarse zero 0"))))
        for name in Standing.NAMES:
            words = Standing(**{name: values_of(name, MACHINE)[0]})
            self.assertFalse(shows_unserved(PATH, MACHINE, 2, Target(), with_part(plain, 1, words)))
        self.assertTrue(shows_unserved(PATH, MACHINE, 2, target, told) and shows_unserved(PATH, MACHINE, 2, Target(), plain))


class RefusedTest(Checks, unittest.TestCase):
    def test_what_take_up_tells(self):
        chance = random.Random(307)
        found = []
        for axes, zeros in ((1, 1), (2, 2), (1, 3)):
            machine = Machine(axes, zeros)
            programs = random_programs(307 + 3 * axes + zeros, 40, depth=3, axes=axes, zeros=zeros)
            for program in programs + list(wordy_programs(307 + zeros, 30)):
                place = chance.randint(0, program.end)
                told = take_up(program, machine, place)
                found.append(told.word)
                self.assertIs(not told, shows_refused(program, machine, place, told))
                self.assertIs(bool(told), shows_taken(program, machine, place, told))
                if told:
                    continue
                self.assertIs(True, shows_refused(program, machine, place, listed(told)))
                for other in range(program.end + 1):
                    if other != place:
                        self.assertIs(False, shows_refused(program, machine, other, told))
                self.check_bent(chance, program, machine, place, told)
        self.assertTrue(found.count("refused") > 20 and found.count("refusedword") > 15, found)

    def check_bent(self, chance, program, machine, place, told):
        if told.word == "refusedword":
            for parts in bends(told.parts):
                if len(parts) == 3:
                    value = RefusedWord(*parts)
                    self.assertIs(holds(refused_word_holds, program, place, value), shows_refused(
                        program, machine, place, value))
            return
        for value in chance.sample(list(self.bent_refusals(told)), 12):
            self.assertIs(holds(refused_holds, program, machine, place, value), shows_refused(
                program, machine, place, value))

    def bent_refusals(self, told):
        for at, row in enumerate(told.rows):
            for partings in self.bent_partings(row.partings):
                yield self.with_row(told, at, RefusedRow(row.words, row.axis, partings))
            for axis in ("x", "y", "w", None):
                yield self.with_row(told, at, RefusedRow(row.words, axis, row.partings))
            yield self.with_row(told, at, RefusedRow(told.rows[at - 1].words, row.axis, row.partings))
            yield Refused(told.rows[:at] + told.rows[at + 1:])
            yield Refused(told.rows[:at] + (row,) + told.rows[at:])
            yield self.with_row(told, at, RefusedRow(row.words, row.axis, told.rows[at - 1].partings))

    def bent_partings(self, partings):
        yield partings[::-1]
        yield partings + partings[:1]
        yield partings[1:]
        yield partings[:1] + partings[:0:-1]
        for at, parting in enumerate(partings):
            yield partings[:at] + partings[at + 1:]
            for parts in bends(parting.parts):
                if len(parts) == 4:
                    yield partings[:at] + (Parting(*parts),) + partings[at + 1:]

    def with_row(self, told, at, row):
        return Refused(told.rows[:at] + (row,) + told.rows[at + 1:])

    def test_all_runs_that_show_a_wanted_word(self):
        """Not only the first ones: all runs and runs on of few steps, against plain playing."""
        chance = random.Random(309)
        taken = refused = 0
        for program in wordy_programs(310, 60):
            place = chance.randint(2, program.end - 1)
            runs = [run for run in list(itertools.islice(runs_of(program, 5), 300)) if run[-1] == place]
            runs_on = list(itertools.islice(runs_of(program, 3, place), 40))
            for _ in range(15 if runs else 0):
                name = chance.choice(Standing.PLAIN_NAMES)
                rows = [
                    (run_words(program, run)[name], run, chance.choice(runs_on)) for run in chance.choices(runs, k=8)
                ]
                right = [row for row in rows if shows_first(program, place, run_words(program, row[1]), row[2], name)]
                rows = sorted(right, key=repr)[::max(1, len(right) - 1)] if chance.random() < 0.5 and len(right) > 1 else rows
                rows = rows[:2]
                value = RefusedWord(name, *rows)
                shown = shows_refused(program, MACHINE, place, value)
                self.assertIs(holds(refused_word_holds, program, place, value), shown)
                taken, refused = taken + shown, refused + (not shown)
        self.assertTrue(taken > 5 and refused > 100, (taken, refused))

    def test_each_parting_that_is_needed(self):
        """Also where a kept register is some number more than what is wanted."""
        numbers = set()
        for zeros, seed in ((1, 311), (2, 312)):
            machine = Machine(1, zeros)
            for program in random_programs(seed, 35, depth=3, zeros=zeros):
                for place in range(program.end):
                    told = take_up(program, machine, place)
                    for at, row in enumerate(told.rows if told.word == "refused" else ()):
                        shift = run_shift(program, machine, row.partings[0].run, row.axis)
                        numbers.update(shift[name].number for name in machine.kept)
                        for left_out in range(len(row.partings)):
                            partings = row.partings[:left_out] + row.partings[left_out + 1:]
                            value = self.with_row(told, at, RefusedRow(row.words, row.axis, partings))
                            self.assertIs(holds(refused_holds, program, machine, place, value), shows_refused(
                                program, machine, place, value))
        self.assertGreater(len(numbers), 5)

    def test_partings_that_are_not_needed(self):
        program, machine = Program.read("skip ( here x 0 ) ; on ; x 1 ; far x 0"), Machine(1, 1)
        told = take_up(program, machine, 2)
        self.assertEqual("refused", told.word)
        run = least_run(program, 2)
        more = Refused([
            RefusedRow(row.words, row.axis, row.partings + (Parting(run, None, 5, ""),)) for row in told.rows
        ])
        self.assertTrue(shows_refused(program, machine, 2, more))
        for bad in (Parting((0,), None, 5, ""), None, Paper("parting", run, (), (), "")):
            worse = Refused([RefusedRow(row.words, row.axis, row.partings + (bad,)) for row in told.rows])
            self.assertFalse(shows_refused(program, machine, 2, worse))

    def test_values_of_words(self):
        """True and 1.0 are no tools, though Python takes them for 1."""
        program = Program.read("tool 1 ; skip ( tool 2 ) ; cut x 1")
        told = take_up(program, MACHINE, 2)
        self.assertEqual(("tool", 1, 2), (told.name, told.one[0], told.other[0]))
        self.assertTrue(shows_refused(program, MACHINE, 2, told))
        self.assertTrue(shows_refused(program, MACHINE, 2, RefusedWord("tool", told.other, told.one)))
        for wrong in (True, 1.0, 2, "1", None):
            self.assertFalse(shows_refused(program, MACHINE, 2, RefusedWord("tool", (wrong,) + told.one[1:], told.other)))
        for run_on in ((2,), (), (2, 3, 3), (3, 2)):
            self.assertFalse(shows_refused(program, MACHINE, 2, RefusedWord("tool", told.one[:2] + (run_on,), told.other)))
        self.assertFalse(shows_refused(program, MACHINE, 2, RefusedWord("tool", told.one, told.one)))
        self.assertFalse(shows_refused(program, MACHINE, 2, RefusedWord("pace", told.one, told.other)))

    def test_any_value(self):
        program = Program.read("skip ( cut ) ; x 1")
        told = take_up(program, MACHINE, 1)
        other = Program.read("skip ( here x 0 ) ; on ; x 1 ; far x 0")
        rows = take_up(other, Machine(1, 1), 2)
        for value in any_values() + [Paper("refusedword", *told.parts), told.parts]:
            self.assertIs(False, shows_refused(program, MACHINE, 1, value))
            for at in range(3):
                self.assertIs(False, shows_refused(program, MACHINE, 1, with_part(told, at, value)))
            for at in range(3):
                self.assertIs(False, shows_refused(program, MACHINE, 1, with_part(told, 1, told.one[:at] + (value,) + told.one[at + 1:])
                              ) if not (at == 2 and value == told.one[2]) else False)
            self.assertIs(False, shows_refused(other, Machine(1, 1), 2, Refused(value)))
            self.assertIs(False, shows_refused(other, Machine(1, 1), 2, Refused((value,) * 4)))
            for at in range(3):
                row = with_part(rows.rows[0], at, value)
                shown = shows_refused(other, Machine(1, 1), 2, self.with_row(rows, 0, row))
                self.assertIs(at == 1 and value == "x", shown)
        self.assertTrue(shows_refused(program, MACHINE, 1, told) and shows_refused(other, Machine(1, 1), 2, rows))
        self.assertFalse(shows_refused(other, Machine(1, 1), 2, Paper("refused", rows.rows)))


class ErrorsTest(Checks, unittest.TestCase):
    def test_wrong_arguments(self):
        for work, rest in (
            (shows_served, (9,)), (shows_taken, (9,)), (shows_refused, (9,)), (shows_unserved, (9, 9)),
        ):
            for value in wrong_values(lambda value: isinstance(value, Program)):
                self.check_error(BadProgram, {"part": "program"}, work, value, 9, 99, *rest)
            for value in wrong_values(lambda value: isinstance(value, Machine)):
                self.check_error(BadMachine, {"part": "machine"}, work, PATH, value, 99, *rest)
            self.check_error(BadMachine, {"part": "fit"}, work, Program.read("y 1"), MACHINE, 99, *rest)
            for value in wrong_values(lambda value: is_integer(value) and 0 <= value <= PATH.end):
                self.check_error(NoPlace, {"place": value}, work, PATH, MACHINE, value, *rest)
        for value in wrong_values(lambda value: isinstance(value, Target)):
            self.check_error(BadTarget, {"part": "target"}, shows_unserved, PATH, MACHINE, 0, value, 9)
        for text in ("zero 2 ; -", "- ; y o", "- ; x z2"):
            self.check_error(BadTarget, {"part": "fit"}, shows_unserved, PATH, MACHINE, 0, Target.read(text), 9)

    def test_the_oracles_see_what_is_wrong(self):
        told = take_up(PATH, MACHINE, 2)
        self.assertTrue(holds(served_holds, PATH, MACHINE, 2, told.served))
        self.assertFalse(holds(served_holds, PATH, MACHINE, 3, told.served))
        words, numbers = dict(FIRST), symbols(MACHINE)
        do_run(words, numbers, PATH, (0, 1, 2))
        self.assertEqual(1, len(marks_of_step(words, numbers, PATH[2])))
        self.assertTrue(wanted(PATH, 2, "way") and unfixed((1, (2,))) == [1, [2]])
        need_integer(1)


if __name__ == "__main__":
    unittest.main()
