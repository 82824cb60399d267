import itertools
import random
import unittest

from kinds import Checks, any_values, is_integer, random_programs, wrong_values
from oracles import holds, need
from takenup.blocks import Block, Home, Move, Touch
from takenup.errors import BadMachine, BadProgram, NoPlace, TooMany
from takenup.items import Round, Skip
from takenup.least import Least, fewest, least_preamble
from takenup.look_making import shows_least
from takenup.look_takeups import shows_served
from takenup.machines import Machine
from takenup.making import by_units
from takenup.papers import Denial, Paper
from takenup.preambles import Preamble
from takenup.prices import Prices
from takenup.programs import Program
from takenup.serving import Served, options, serves
from takenup.standing import Standing, values_of
from takenup.sums import Sum
from takenup.takeups import choices, take_up
from takenup.targets import Target
from takenup.uses import wanted

NUMBERS = (0, 5, 127, 635, 1, -1, -5, -127, 3, 132, 10 ** 30 - 1, -635 * 10 ** 20)
PATH = Program.read("x 0 ; on ; round ( x 4 ; here x 0 ) ; far x 0")


def random_target(chance, machine, chance_of_sum):
    words = Standing(**{
        name: chance.choice(values_of(name, machine)) for name in Standing.NAMES if chance.random() < 0.35
    })
    sums = {
        axis: Sum(chance.choice(machine.kept), chance.choice(NUMBERS)) for axis in machine.axes
        if chance.random() < chance_of_sum
    }
    return Target(words, **sums)


class Search:
    """All preambles of few entries that may serve a place, one entry a block; what serves is known by its outcome."""

    def __init__(self, program, machine, place):
        self.program, self.machine, self.place = program, machine, place
        self.known = {}
        values = {name: values_of(name, machine) for name in Standing.NUMBER_NAMES}
        for name in Standing.PLAIN_NAMES:
            values[name] = [value for value, _, _ in wanted(program, place, name)]
        values["way"] = ["rapid"] + [value for value in values["way"] if value == "cut"]
        self.entries = [Block(Standing(**{name: value})) for name in values for value in values[name]]
        for axis in machine.axes:
            self.entries += [Block(None, Home(axis)), Block(None, Touch(axis))]
            self.entries += [Block(None, Move(**{axis: number})) for number in sorted(self.numbers(axis))]

    def numbers(self, axis):
        """The numbers of moves that lead to a sum that some words let serve, at once or in two moves."""
        found = {0}
        for choice in choices(self.program, self.machine, self.place):
            for told in options(self.program, self.machine, self.place, choice.words, axis):
                if told is not None:
                    for length in (5, 127):
                        if told.number % length == 0:
                            found.add(told.number // length)
                    found.update(by_units(told.number, "fine") + by_units(told.number, "coarse"))
        return found

    def serves(self, blocks):
        try:
            target = Preamble(*blocks).outcome(self.machine)
        except ValueError:
            return False
        text = str(target)
        if text not in self.known:
            self.known[text] = bool(serves(self.program, self.machine, self.place, target))
        return self.known[text]

    def some(self, most):
        """Some preamble of at most so many entries that serves, None if there is none."""
        for many in range(most + 1):
            for blocks in itertools.product(self.entries, repeat=many):
                if self.serves(blocks):
                    return blocks
        return None


def without_one(preamble):
    """The blocks of a preamble, in all ways in which one entry is left out."""
    for at, block in enumerate(preamble.blocks):
        for name in block.words.said:
            yield with_block(preamble, at, Block(block.words.with_word(name, None), block.deed))
        for axis in block.axes:
            deed = block.deed
            left = [other for other in block.axes if other != axis]
            if deed.KIND == "move":
                deed = deed.renumbered(**{other: deed[other] for other in left}) if left else None
            else:
                deed = deed.renamed(*left) if left else None
            yield with_block(preamble, at, Block(block.words, deed))


def with_block(preamble, at, block):
    return preamble.blocks[:at] + (block,) + preamble.blocks[at + 1:]


def least_holds(program, machine, place, value):
    need(type(value) is Least and type(value.preamble) is Preamble and value.preamble.fits(machine))
    need(type(value.served) is Served and shows_served(program, machine, place, value.served))
    outcome, target = value.preamble.outcome(machine), value.served.target
    need(outcome.sums == target.sums and target.words.is_part_of(outcome.words))


class LeastTest(Checks, unittest.TestCase):
    def check_least(self, told, program, machine, place):
        self.assertIs(Least, type(told))
        self.assertIs(Preamble, type(told.preamble))
        self.assertTrue(holds(least_holds, program, machine, place, told))
        self.assertIs(True, shows_least(program, machine, place, told))
        self.assertTrue(serves(program, machine, place, told.preamble.outcome(machine)))
        self.assertLessEqual(len(told.preamble.blocks), len(told.preamble))
        self.assertLessEqual(len(told.preamble), len(fewest(machine, take_up(program, machine, place).target).preamble))
        search = Search(program, machine, place)
        for blocks in without_one(told.preamble):
            self.assertFalse(search.serves(blocks), [str(block) for block in blocks])
        self.assertEqual(told, least_preamble(program, machine, place))
        self.assertEqual(told.preamble, Preamble.read(str(told.preamble)))
        return search

    def test_drawn_programs(self):
        chance = random.Random(421)
        found, searched = [], []
        for axes, zeros, many, most in ((1, 1, 60, 3), (2, 2, 40, 2), (1, 3, 30, 3), (3, 1, 30, 2)):
            machine = Machine(axes, zeros)
            for program in random_programs(421 + 3 * axes + zeros, many, depth=3, axes=axes, zeros=zeros):
                place = chance.randint(0, program.end)
                told = least_preamble(program, machine, place)
                taken = take_up(program, machine, place)
                found.append(told.word)
                if not taken:
                    self.assertEqual((type(taken), taken), (type(told), told))
                    continue
                search = self.check_least(told, program, machine, place)
                fewer = len(told.preamble) - 1
                if fewer <= most:
                    self.assertIsNone(search.some(fewer))
                    searched.append(fewer)
        self.assertTrue({"least", "refused", "refusedword"} <= set(found), found)
        self.assertTrue({0, 1, 2, 3} <= set(searched), searched)

    def test_by_hand(self):
        machine = Machine(1, 2)
        for text, place, many in (
            ("x 0 ; on ; round ( x 4 ; here x 0 ) ; far x 0", 0, 4), ("x 0 ; on ; x 4", 2, 4), ("x 0 ; on ; x 4", 3, 0),
            ("home x ; on ; x 4 ; here x 0", 2, 5), ("cut pace 5 ; x 0 ; x 1", 2, 9), ("x 3 ; on ; x 1 ; far x 1", 2, 6),
        ):
            told = least_preamble(Program.read(text), machine, place)
            self.check_least(told, Program.read(text), machine, place)
            self.assertEqual(many, len(told.preamble), (text, str(told.preamble)))

    def test_not_the_least_target(self):
        """Few entries of a target need not be few entries of a preamble: a word is said sooner than a sum is made."""
        program, machine = Program.read("coarse ; x -2"), Machine(1, 1)
        told, taken = least_preamble(program, machine, 1), take_up(program, machine, 1)
        self.check_least(told, program, machine, 1)
        self.assertEqual(("coarse rapid ; x z0", ("far", "coarse", "rapid")), (str(taken.target), told.preamble.entries))
        self.assertEqual(5, len(fewest(machine, taken.target).preamble))

    def test_least_of_all_targets(self):
        """By all targets of the choices and their options, each made by the fewest entries."""
        for axes, zeros, seed in ((1, 2, 430), (2, 2, 431), (2, 3, 432), (3, 2, 433)):
            machine = Machine(axes, zeros)
            for program in random_programs(seed, 30, depth=3, axes=axes, zeros=zeros):
                for place in range(0, program.end + 1, 3):
                    told = least_preamble(program, machine, place)
                    if told:
                        plain = {
                            name: rows[0][0] for name in Standing.PLAIN_NAMES for rows in [wanted(program, place, name)] if rows
                        }
                        lengths = []
                        for choice in choices(program, machine, place):
                            for row in itertools.product(*choice.options):
                                sums = {axis: one for axis, one in zip(machine.axes, row) if one is not None}
                                target = Target(choice.words | Standing(**plain), **sums)
                                if len(target) <= len(told.preamble):
                                    lengths.append(len(fewest(machine, target).preamble))
                        self.assertEqual(min(lengths), len(told.preamble))

    def test_prices(self):
        """Entries are counted by the kinds of the sums alone; what is found in a moment is never too many."""
        chance = random.Random(434)
        for machine in (Machine(1, 1), Machine(2, 2), Machine(3, 4)):
            prices = Prices(machine.zeros)
            for _ in range(60):
                target = random_target(chance, machine, 0.9)
                self.assertEqual(len(fewest(machine, target).preamble), prices.price_of(target), str(target))
                self.assertLessEqual(prices.floor_of(target), prices.price_of(target))

    def test_all_kinds_of_options(self):
        """One axis with sums of all kinds to choose from, also of numbers of which both lengths are parts."""
        for more in ("coarse x 5", "fine x 1", "coarse x 1 ; fine x 1", "coarse x -1 ; fine x 2 ; coarse x 1"):
            lines = f"home x ; here x 0 ; on {more} ; fine zero 1 here x 3 ; coarse zero 2 here x 1 ; fine zero 3 here x 127"
            program, machine = Program.read(f"{lines} ; on fine x 4 ; zero 0 here x 0 ; far x 0"), Machine(1, 4)
            place = [str(step) for step in program].index("on fine x 4")
            told = least_preamble(program, machine, place)
            self.check_least(told, program, machine, place)
            lengths = [
                len(fewest(machine, Target(choice.words | Standing(way="rapid"), x=one)).preamble)
                for choice in choices(program, machine, place) for one in choice.options[0]
            ]
            self.assertEqual(min(lengths), len(told.preamble))

    def test_many_options(self):
        """Three axes, each with sums of five registers."""
        lines = ["home x y w"] + [f"zero {at} here x {at} y {at} w {at}" for at in range(4)] + ["on coarse"]
        lines += ["x 3 y 1 w 2", "here x 0 y 0 w 0", "far x 0"]
        program, machine = Program.read(" ; ".join(lines)), Machine(3, 4)
        told = least_preamble(program, machine, 6)
        self.assertTrue(shows_least(program, machine, 6, told))
        self.assertEqual((7, "on coarse zero 3 rapid ; x o y o w o"), (len(told.preamble), str(told.served.target)))
        lines[0] = "home x y w ; on fine zero 0 x 1 y 2 w 3 ; coarse x 1 y -1 w 1 ; far fine"
        program = Program.read(" ; ".join(lines))
        at = [str(step) for step in program].index("x 3 y 1 w 2")
        told = least_preamble(program, machine, at)
        self.assertTrue(shows_least(program, machine, at, told))

    def test_no_target_of_a_choice_needs_fewer(self):
        """Also where options for other words are nearer."""
        program = Program.read("x 0 ; on ; x 4 ; far x 0")
        told = least_preamble(program, Machine(1, 1), 2)
        self.assertEqual(("far", "fine", "rapid"), told.preamble.entries)

    def test_too_many(self):
        texts = ("far", "on", "fine", "coarse", "zero 0", "zero 1", "zero 2", "zero 3", "rapid", "cut")
        machine = Machine(1, 4)
        wide = Program(Block(), Round(*[Skip(Program.read(text)[0]) for text in texts]), *[Block()] * 6)
        for work in (take_up, least_preamble):
            self.check_error(TooMany, {"what": "nodes", "most": 2000}, work, wide, machine, 0)
        plains = [Skip(Block(Standing(pace=at))) for at in range(1, 10)] + [Skip(Block(Standing(tool=at))) for at in range(1, 10)]
        self.check_error(TooMany, {"what": "nodes", "most": 2000}, least_preamble, Program(Block(), Round(*plains), Block()), machine, 0)

    def test_many_steps_six_deep(self):
        text = "x 1 ; skip ( here x 0 y 1 ; round ( on y -2 ; skip ( zero 1 lay x 1 ; round ( coarse cut ; far x 3 ) ) ) )"
        program = Program.read(f"far x 0 ; round ( round ( {text} ) ; skip ( {text} ) ; {text} ) ; {text} ; {text} ; zero 0")
        machine = Machine(3, 4)
        for place in range(0, program.end + 1, 4):
            told, taken = least_preamble(program, machine, place), take_up(program, machine, place)
            self.assertEqual(bool(taken), bool(told))
            self.assertTrue(shows_least(program, machine, place, told) if told else told == taken)

    def test_paper(self):
        told = Least(served=1, preamble=[2])
        self.assertEqual(((2,), 1), (told.preamble, told.served))
        self.assertTrue(told == Paper("least", (2,), 1) and bool(told) and not isinstance(told, Denial))

    def test_wrong_arguments(self):
        machine = Machine(1, 2)
        for work, rest in ((least_preamble, ()), (shows_least, (9,))):
            for value in wrong_values(lambda value: isinstance(value, Program)):
                self.check_error(BadProgram, {"part": "program"}, work, value, 9, 99, *rest)
            for value in wrong_values(lambda value: isinstance(value, Machine)):
                self.check_error(BadMachine, {"part": "machine"}, work, PATH, value, 99, *rest)
            self.check_error(BadMachine, {"part": "fit"}, work, Program.read("y 1"), machine, 99, *rest)
            for value in wrong_values(lambda value: is_integer(value) and 0 <= value <= PATH.end):
                self.check_error(NoPlace, {"place": value}, work, PATH, machine, value, *rest)


class LookTest(Checks, unittest.TestCase):
    def test_any_value(self):
        machine = Machine(1, 2)
        told = least_preamble(PATH, machine, 2)
        self.assertTrue(shows_least(PATH, machine, 2, told))
        for value in any_values() + [Paper("least", *told.parts), told.parts, take_up(PATH, machine, 2)]:
            self.assertIs(False, shows_least(PATH, machine, 2, value))
            self.assertIs(False, shows_least(PATH, machine, 2, Least(value, told.served)))
            self.assertIs(False, shows_least(PATH, machine, 2, Least(told.preamble, value)))
            served = Served(2, value, *told.served.parts[2:])
            self.assertIs(False, shows_least(PATH, machine, 2, Least(told.preamble, served)))
        for place in (0, 1, 3, 4, 5):
            self.assertIs(False, shows_least(PATH, machine, place, told))

    def test_preambles_and_targets(self):
        """The preamble makes just the sums of the target, and may say more words; how many entries it has is not seen."""
        machine = Machine(1, 2)
        target = Target.read("fine zero 0 rapid ; x z0")
        served = serves(PATH, machine, 2, target)
        for text, shown in (
            ("far fine zero 0 rapid x 0", True), ("fine ; far zero 0 rapid x 0 ; on", True), ("far fine zero 0 rapid", False),
            ("far fine zero 0 rapid x 1", False), ("far coarse zero 0 rapid x 0", False), ("fine zero 0 rapid home x", False),
            ("far fine zero 0 rapid x 0 ; zero 1", False), ("far fine zero 0 rapid x 0 ; cut", False),
            ("far fine zero 0 rapid x 0 ; pace 3 ; pace 4 ; pace 3", True), ("far fine zero 0 rapid x 0 ; home y", False),
            ("zero 2 ; far fine zero 0 rapid x 0", False),
        ):
            value = Least(Preamble.read(text), served)
            self.assertIs(shown, shows_least(PATH, machine, 2, value), text)
            self.assertIs(shown, holds(least_holds, PATH, machine, 2, value), text)
        self.assertEqual({"x": Sum("z0")}, served.target.sums)


if __name__ == "__main__":
    unittest.main()
