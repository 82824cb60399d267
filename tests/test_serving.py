import itertools
import random
import unittest

from kinds import Checks, any_values, is_integer, random_programs, wrong_values
from plain_play import FIRST, do_run
from side_by_side import Symbol, parts_at, spots, symbols
from takenup.arrivals import arrivals, plain_arrivals
from takenup.blocks import Block
from takenup.errors import BadMachine, BadProgram, BadTarget, BadWords, NoAxis, NoPlace, TooMany
from takenup.items import Round, Skip
from takenup.look_alike import shows_pairs, shows_parting, shows_plains
from takenup.look_tables import shows_table
from takenup.machines import Machine
from takenup.pairs import asked, pair_table, plain_table
from takenup.papers import Denial, Paper
from takenup.places import runs_of
from takenup.programs import Program
from takenup.serving import Served, Unserved, options, serves
from takenup.standing import Standing, values_of
from takenup.sums import Sum
from takenup.tables import differences
from takenup.takeups import take_up
from takenup.targets import Target

PATH = Program.read("x 0 ; on ; round ( x 4 ; here x 0 ) ; far x 0")
ON = Standing.read("on fine zero 0 rapid")
MANY = {"what": "nodes", "most": 2000}


def limited_runs(program, most, limit, begin=None):
    return list(itertools.islice(runs_of(program, most, begin), limit))


def left_by_hands(target, machine):
    """Some ways in which hands leave the words that a target leaves."""
    for filling in list(target.words.number_words.fillings(machine))[:5]:
        yield {**{name: ("left", name) for name in Standing.PLAIN_NAMES}, **dict(target.words), **dict(filling)}


def parts_on_few_steps(program, machine, place, target, runs, runs_on):
    """Whether a machine that is taken up parts from the one that goes on, on some of these runs on from these runs."""
    for run in runs:
        held, numbers = dict(FIRST), symbols(machine)
        do_run(held, numbers, program, run)
        for words, run_on in itertools.product(list(left_by_hands(target, machine)), runs_on):
            first = {axis: dict(row) for axis, row in numbers.items()}
            other = {axis: dict(row) for axis, row in numbers.items()}
            for axis in machine.axes:
                told = target.sum_of(axis)
                other[axis]["p"] = Symbol("hand " + axis) if told is None else numbers[axis][told.source] + told.number
            for spot in spots(program, program, machine, run_on, dict(held), first, dict(words), other):
                if not spot[4] == spot[5]:
                    return True
    return False


def random_target(chance, program, machine, place):
    """A target a little beside the least one, if there is one."""
    told = take_up(program, machine, place)
    if not told or chance.random() < 0.2:
        words = Standing(**{name: chance.choice([None, *values_of(name, machine)]) for name in Standing.NAMES})
        return Target(words, **{
            axis: Sum(chance.choice(machine.kept), chance.choice([0, 5])) for axis in machine.axes if chance.random() < 0.5
        })
    words, sums = told.target.words, told.target.sums
    roll = chance.random()
    if roll < 0.3:
        name = chance.choice(Standing.NAMES)
        words = words.with_word(name, chance.choice([None, *values_of(name, machine)]))
    elif roll < 0.5 and sums:
        del sums[chance.choice(sorted(sums))]
    elif roll < 0.8:
        axis = chance.choice(machine.axes)
        sums[axis] = Sum(chance.choice(machine.kept), 0) if axis not in sums else sums[axis] + chance.choice([1, -5])
    return Target(words, **sums)


class ServesTest(Checks, unittest.TestCase):
    def check_served(self, told, program, machine, place, target):
        self.assertEqual((Served, place, target), (type(told), told.place, told.target))
        self.assertEqual(differences(program, machine), told.table)
        self.assertTrue(shows_table(program, machine, told.table))
        self.assertEqual(len(machine.axes), len(told.pairs))
        for axis, table in zip(machine.axes, told.pairs):
            openings = [
                (place, words, filling, target.sum_of(axis)) for words, _ in arrivals(program, place)
                for filling in target.words.number_words.fillings(machine)
            ]
            self.assertTrue(shows_pairs(program, machine, axis, openings, table, None, told.table))
            self.assertEqual(pair_table(program, machine, axis, openings), table)
        plains = [(place, words, target.words.plain_words) for words, _ in plain_arrivals(program, place)]
        self.assertTrue(shows_plains(program, plains, told.plains))
        self.assertEqual(plain_table(program, plains), told.plains)

    def check_unserved(self, told, program, machine, place, target):
        self.assertIs(Unserved, type(told))
        self.assertEqual(place, told.parting.run[-1])
        plains = [(place, words, target.words.plain_words) for words, _ in plain_arrivals(program, place)]
        if told.part not in machine.axes:
            self.assertEqual((Standing(), told.parting.what), (told.words, told.part))
            args = (None, target.words.plain_words, None, told.parting)
            self.assertTrue(shows_parting(program, machine, *args))
            self.assertTrue(parts_at(program, program, machine, *args))
            self.assertFalse(plain_table(program, plains))
            return
        self.assertTrue(plain_table(program, plains))
        args = (told.part, told.words, target.sum_of(told.part), told.parting)
        self.assertTrue(shows_parting(program, machine, *args))
        self.assertTrue(parts_at(program, program, machine, *args))
        self.assertEqual((told.words, told.part), self.first_parted(program, machine, place, target))

    def first_parted(self, program, machine, place, target):
        for filling in target.words.number_words.fillings(machine):
            for axis in machine.axes:
                openings = [(place, words, filling, target.sum_of(axis)) for words, _ in arrivals(program, place)]
                if not pair_table(program, machine, axis, openings):
                    return filling, axis
        return None

    def test_drawn_programs(self):
        chance = random.Random(201)
        found = []
        for axes, zeros in ((1, 1), (2, 2), (1, 3)):
            machine = Machine(axes, zeros)
            for program in random_programs(200 + zeros, 50, depth=3, axes=axes, zeros=zeros):
                place = chance.randint(0, program.end)
                runs = [run for run in limited_runs(program, 5, 200) if run[-1] == place][:6]
                runs_on = limited_runs(program, 4, 25, place)
                for _ in range(3):
                    target = random_target(chance, program, machine, place)
                    told = serves(program, machine, place, target)
                    found.append(told.word + ("" if told else " " + told.part))
                    parts = parts_on_few_steps(program, machine, place, target, runs, runs_on)
                    if told:
                        self.assertFalse(parts)
                        self.check_served(told, program, machine, place, target)
                    else:
                        self.check_unserved(told, program, machine, place, target)
        self.assertTrue(found.count("served") > 100 and found.count("unserved x") > 30, found)
        self.assertTrue({"unserved way", "unserved y"} <= set(found), set(found))

    def test_by_hand(self):
        machine = Machine(1, 2)
        for place, text, part in (
            (2, "far fine zero 0 rapid ; -", None), (2, "fine zero 0 rapid ; x z0", None), (2, "zero 0 rapid ; x z0", "x"),
            (2, "fine zero 0 rapid ; -", "x"), (2, "fine zero 0 ; x z0", "way"), (2, "on fine zero 0 rapid ; x z0+1", "x"),
            (3, "fine zero 0 rapid ; x z0+20", None), (5, "- ; -", None),
            (5, "cut ; x o", None), (4, "zero 0 rapid ; -", None), (4, "zero 1 rapid ; -", "x"), (4, "zero 0 cut ; -", "way"),
        ):
            told = serves(PATH, machine, place, Target.read(text))
            self.assertEqual((part is None, part), (bool(told), None if told else told.part), text)

    def test_whatever_more_it_says(self):
        chance = random.Random(202)
        machine = Machine(2, 2)
        for program in random_programs(203, 60, depth=3, axes=2):
            for place in range(program.end + 1):
                told = take_up(program, machine, place)
                if told and chance.random() < 0.5:
                    left = [name for name in Standing.NAMES if name not in told.target.words.said]
                    more = Standing(**{name: chance.choice(values_of(name, machine)) for name in left[:chance.randint(0, 7)]})
                    sums = {
                        axis: Sum(chance.choice(machine.kept), 7) for axis in machine.axes
                        if axis not in told.target.axes and chance.random() < 0.5
                    }
                    self.assertTrue(serves(program, machine, place, told.target | Target(more, **sums)))
            self.assertTrue(serves(program, machine, program.end, Target()))

    def test_words_that_hold_at_no_arrival(self):
        program = Program.read("x 0 ; on ; x 4 ; here x 0")
        self.assertEqual(["on fine zero 0 rapid"], [str(words) for words, _ in arrivals(program, 2)])
        self.assertTrue(serves(program, Machine(1, 1), 2, Target.read("far fine zero 0 rapid ; -")))

    def test_great_tolds(self):
        program = Program.read("x 0 ; told 1000000000000 ( on x 1 ; told 1000000000000 ( lay x 1 ) ) ; far x 0")
        machine = Machine(1, 1)
        told = serves(program, machine, 1, Target.read("fine zero 0 rapid ; x z0"))
        self.assertTrue(told)
        self.check_served(told, program, machine, 1, told.target)
        parted = serves(program, machine, 1, Target.read("fine zero 0 rapid ; x z0+1"))
        self.assertEqual((0, 0), parted.parting.inside)
        self.assertTrue(shows_parting(program, machine, "x", parted.words, Sum("z0", 1), parted.parting))

    def test_two_thousand_pair_nodes(self):
        texts = ("far", "on", "fine", "coarse", "zero 0", "zero 1", "zero 2", "zero 3", "rapid", "cut")
        skips = [Skip(Program.read(text)[0]) for text in texts]
        machine = Machine(1, 4)
        more = Program(Round(*skips), Block())
        self.check_error(TooMany, MANY, serves, more, machine, 0, Target())
        self.assertTrue(serves(more, machine, 0, Target.read("far fine zero 0 ; -")))
        plains = [Skip(Block(Standing(pace=at))) for at in range(1, 10)] + [Skip(Block(Standing(tool=at))) for at in range(1, 10)]
        self.check_error(TooMany, MANY, serves, Program(Block(), Round(*plains), Block()), machine, 0, Target())
        self.assertEqual((None,), options(more, machine, 0, Standing(), "x"))

    def test_the_papers(self):
        told = Served(plains=1, pairs=[2], table=3, target=4, place=5)
        self.assertEqual((5, 4, 3, (2,), 1), (told.place, told.target, told.table, told.pairs, told.plains))
        self.assertTrue(told == Paper("served", 5, 4, 3, [2], 1) and bool(told) and not isinstance(told, Denial))
        told = Unserved(parting=1, words=2, part=3)
        self.assertEqual((3, 2, 1), (told.part, told.words, told.parting))
        self.assertTrue(told == Paper("unserved", 3, 2, 1) and not told and isinstance(told, Denial))

    def test_wrong_arguments(self):
        machine = Machine(1, 2)
        for work, rest in ((serves, (9,)), (options, (9, 9))):
            for value in wrong_values(lambda value: isinstance(value, Program)):
                self.check_error(BadProgram, {"part": "program"}, work, value, 9, 99, *rest)
            for value in wrong_values(lambda value: isinstance(value, Machine)):
                self.check_error(BadMachine, {"part": "machine"}, work, PATH, value, 99, *rest)
            self.check_error(BadMachine, {"part": "fit"}, work, Program.read("y 1"), machine, 99, *rest)
            for value in wrong_values(lambda value: is_integer(value) and 0 <= value <= PATH.end):
                self.check_error(NoPlace, {"place": value}, work, PATH, machine, value, *rest)
        for value in wrong_values(lambda value: isinstance(value, Target)):
            self.check_error(BadTarget, {"part": "target"}, serves, PATH, machine, 0, value)
        for text in ("zero 2 ; -", "- ; y o", "- ; x z2"):
            self.check_error(BadTarget, {"part": "fit"}, serves, PATH, machine, 0, Target.read(text))
        words = [Standing(way="rapid"), Standing(reading="on", pace=3), Standing(zero=2), Standing.first()]
        for value in wrong_values(lambda value: isinstance(value, Standing) and len(value) == 0) + words:
            self.check_error(BadWords, {"part": "words"}, options, PATH, machine, 0, value, "q")
        for value in wrong_values(lambda value: isinstance(value, str) and value == "x"):
            self.check_error(NoAxis, {"axis": value}, options, PATH, machine, 0, Standing(), value)
        self.assertTrue(any_values())


class OptionsTest(Checks, unittest.TestCase):
    def expected(self, program, machine, place, words, axis):
        """By the pair tables of all sums that some want of some run on asks for."""
        table = differences(program, machine)
        held = [found for found, _ in arrivals(program, place)]
        fillings = list(words.fillings(machine))
        openings = [(place, found, filling) for found in held for filling in fillings]
        if pair_table(program, machine, axis, [(*opening, None) for opening in openings]):
            return (None,)
        numbers = {name: [] for name in machine.kept}
        for opening in openings:
            for want in asked(program, machine, axis, *opening):
                for name in machine.kept:
                    number = table(place, opening[1], axis, want.one, name)
                    if want.other == "p" and number is not None and number - want.number not in numbers[name]:
                        numbers[name].append(number - want.number)
        sums = [Sum(name, number) for name in machine.kept for number in numbers[name]]
        return tuple(
            told for told in sums if pair_table(program, machine, axis, [(*opening, told) for opening in openings])
        )

    def test_by_pair_tables(self):
        chance = random.Random(204)
        found = []
        for axes, zeros in ((1, 1), (2, 2), (1, 3)):
            machine = Machine(axes, zeros)
            for program in random_programs(204 + zeros, 50, depth=3, axes=axes, zeros=zeros):
                place, axis = chance.randint(0, program.end), chance.choice(machine.axes)
                for _ in range(3):
                    words = Standing(**{
                        name: chance.choice([None, *values_of(name, machine)]) for name in Standing.NUMBER_NAMES
                    })
                    told = options(program, machine, place, words, axis)
                    self.assertEqual(self.expected(program, machine, place, words, axis), told)
                    found.append("left" if told == (None,) else len(told))
        self.assertTrue({"left", 0, 1, 2} <= set(found), set(found))

    def test_by_hand(self):
        machine = Machine(1, 2)
        for place, text, told in (
            (2, "far fine zero 0", [None]), (2, "on fine zero 0", ["z0"]), (2, "fine zero 0", ["z0"]), (2, "zero 0", []),
            (2, "-", []), (3, "fine zero 0", ["z0+20"]), (3, "coarse zero 0", []), (4, "zero 0", [None]), (4, "zero 1", []),
            (5, "-", [None]), (0, "far zero 0", []), (0, "far fine zero 0", [None]), (1, "coarse zero 0", []), (1, "fine zero 0", ["z0"]),
        ):
            found = options(PATH, machine, place, Standing.read(text), "x")
            self.assertEqual(told, [one and str(one) for one in found], (place, text))

    def test_several_kept_registers(self):
        program = Program.read("home x ; here x 1 ; zero 1 here x 2 ; on x 3 ; here x 0")
        found = options(program, Machine(1, 3), 4, Standing.read("zero 1"), "x")
        self.assertEqual(["z0+20", "z1+25", "o+15"], [str(one) for one in found])

    def test_arrivals_without_an_option_in_common(self):
        program, machine = Program.read("x 0 ; skip ( zero 1 x 0 ) ; on x 1"), Machine(1, 2)
        self.assertEqual((), options(program, machine, 2, Standing.read("on fine"), "x"))
        self.assertEqual((Sum("z0"),), options(program.items_from(0, 1) + program.items_from(2, 3), machine, 1, Standing.read("on fine"), "x"))
        self.assertEqual((None,), options(program, machine, 3, Standing(), "x"))


if __name__ == "__main__":
    unittest.main()
