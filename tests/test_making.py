import itertools
import random
import unittest

from kinds import Checks, any_values, is_integer, wrong_values
from oracles import bends, holds, need, need_integer, unfixed
from takenup.blocks import Block, Home, Move, Touch
from takenup.errors import BadMachine, BadPaper, BadTarget, BadWords
from takenup.least import Made, fewest
from takenup.look_making import shows_made
from takenup.machines import Machine
from takenup.making import Making, begun, by_units, is_made, next_makings, plain_entries
from takenup.papers import Denial, Paper
from takenup.preambles import Preamble
from takenup.standing import Standing, values_of
from takenup.sums import Sum
from takenup.targets import Target

GRADES = ("away", "base", "fine", "coarse", "there")
NUMBERS = (0, 5, 127, 635, 1, -1, -5, -127, 3, 132, 10 ** 30 - 1, -635 * 10 ** 20)


def random_target(chance, machine, chance_of_sum=0.7):
    words = Standing(**{
        name: chance.choice(values_of(name, machine)) for name in Standing.NAMES if chance.random() < 0.35
    })
    sums = {
        axis: Sum(chance.choice(machine.kept), chance.choice(NUMBERS)) for axis in machine.axes
        if chance.random() < chance_of_sum
    }
    return Target(words, **sums)


def random_making(chance, machine, target):
    words = Standing(**{
        name: chance.choice([None, *values_of(name, machine)]) for name in Standing.NUMBER_NAMES
    })
    return Making(words, [chance.choice(GRADES) for _ in target.axes])


def next_ones(machine, target, making):
    """The points of [22], said once more: the list of the pairs of an entry and the making to which it leads."""
    found = []

    def lead(entry, words, grades):
        after = Making(words, grades)
        if after != making and (entry, after) not in found:
            found.append((entry, after))
    for name in Standing.NUMBER_NAMES:
        for value in values_of(name, machine):
            entry = f"zero {value}" if name == "zero" else value
            lead(entry, making.words.with_word(name, value), making.grades)
    reading, unit, zero = [making.words[name] for name in Standing.NUMBER_NAMES]
    length = {None: None, "fine": 5, "coarse": 127}[unit]
    for at, axis in enumerate(target.axes):
        told, grade = target.sum_of(axis), making.grades[at]
        is_zero = told.source[0] == "z"
        behind = None
        if unit:
            behind = "there" if told.number % length == 0 else {"fine": "coarse", "coarse": "fine"}[unit]
        grades = []
        if grade != "there":
            if not is_zero or (reading == "far" and told.source == f"z{zero}"):
                grades.append("there" if told.number == 0 else "base")
            if is_zero and told.number != 0 and reading == "far" and told.source == f"z{zero}" and unit:
                grades.append(behind)
        if grade == "base" and reading == "on" and unit:
            grades.append(behind)
        if grade in ("fine", "coarse") and reading == "on" and unit == grade:
            grades.append("there")
        for one in grades:
            lead(axis, making.words, making.grades[:at] + (one,) + making.grades[at + 1:])
    return found


def made_holds(machine, target, value):
    """The conditions of a Made, said once more."""
    need(type(value) is Made and type(value.preamble) is Preamble and value.preamble.fits(machine))
    outcome = value.preamble.outcome(machine)
    need(outcome.sums == target.sums and target.words.is_part_of(outcome.words))
    rest = len(value.preamble) - plain_entries(target)
    need(type(value.rows) is tuple)
    numbers = {}
    for making, number in value.rows:
        need(type(making) is Making and type(making.words) is Standing and type(making.grades) is tuple)
        need(making.words.number_words == making.words and making.words.fits(machine))
        need(len(making.grades) == len(target.axes) and all(grade in GRADES for grade in making.grades))
        need_integer(number, 0, number)
        need(str(making) not in numbers and not is_made(target, making))
        numbers[str(making)] = number
    if rest > 0:
        need(numbers[str(begun(target))] == 0)
    for making, number in value.rows:
        if number + 1 < rest:
            for _, after in next_ones(machine, target, making):
                need(numbers[str(after)] <= number + 1)


def preambles_of(machine, most, numbers, plain=()):
    """All preambles of so many entries, one word or axis each, with these numbers of moves."""
    entries = [Block(Standing(**{name: value})) for name in Standing.NUMBER_NAMES for value in values_of(name, machine)]
    entries += [Block(Standing(way="rapid")), *plain]
    for axis in machine.axes:
        entries += [Block(None, Home(axis)), Block(None, Touch(axis))]
        entries += [Block(None, Move(**{axis: number})) for number in numbers]
    for many in range(most + 1):
        yield from (row for row in itertools.product(entries, repeat=many))


class UnitsTest(Checks, unittest.TestCase):
    def check(self, number):
        for last, at, low, high in (("coarse", 1, -2, 2), ("fine", 0, -63, 63)):
            pair = by_units(number, last)
            self.assertIs(tuple, type(pair))
            self.assertEqual(number, 5 * pair[0] + 127 * pair[1])
            self.assertTrue(low <= pair[at] <= high, (number, last, pair))

    def test_numbers(self):
        for number in range(-1500, 1500):
            self.check(number)
        chance = random.Random(411)
        for base in (5, 127, 635, 635 ** 5, 10 ** 30, 10 ** 60):
            for _ in range(100):
                times = chance.randint(-10 ** 6, 10 ** 6)
                for more in (-64, -63, -3, -2, -1, 0, 1, 2, 3, 63, 64):
                    self.check(base * times + more)
        self.check(10 ** 5000 + 1)

    def test_the_only_pair(self):
        for number in range(-700, 700, 7):
            for last, size in (("coarse", 2), ("fine", 63)):
                pairs = []
                for part in range(-size, size + 1):
                    rest = number - (127 if last == "coarse" else 5) * part
                    other = 5 if last == "coarse" else 127
                    if rest % other == 0:
                        pairs.append((rest // other, part) if last == "coarse" else (part, rest // other))
                self.assertEqual([by_units(number, last)], pairs)

    def test_wrong_units(self):
        for value in any_values() + ["fin", "FINE", ["fine"], "unit"]:
            self.check_error(BadWords, {"part": "unit"}, by_units, 5, value)


class MakingsTest(Checks, unittest.TestCase):
    def test_paper(self):
        making = Making(grades=["away", "there"], words=Standing.read("far fine"))
        self.assertEqual((Standing.read("far fine"), ("away", "there")), (making.words, making.grades))
        self.assertEqual("far fine ; away there", str(making))
        self.assertEqual(["- ; -", "- ; base", "on ; -"], [str(one) for one in (
            Making(Standing(), ()), Making(Standing(), ("base",)), Making(Standing(reading="on"), ())
        )])
        self.assertTrue(making == Paper("making", Standing.read("far fine"), ["away", "there"]) and bool(making))
        self.assertFalse(isinstance(making, Denial) or making == Making(Standing(), ("away", "there")))
        self.assertEqual((0, None), Making(0, None).parts)
        for name in ("__init__", "__str__"):
            self.assertIn(name, vars(Making))

    def test_begun_and_plain_entries(self):
        for text, told, many in (
            ("- ; -", "- ; -", 0), ("far fine zero 1 ; -", "- ; -", 0), ("rapid ; -", "- ; -", 1), ("cut tool 3 pace 4 still ; -", "- ; -", 4),
            ("- ; x o", "- ; away", 1), ("rapid ; x o", "- ; away", 1), ("cut ; x o", "- ; away", 2),
            ("on rapid tool 3 ; x o y z1-5", "- ; away away", 2), ("tool 3 pace 2 ; y o w s+7", "- ; away away", 3),
        ):
            target = Target.read(text)
            self.assertEqual((told, many), (str(begun(target)), plain_entries(target)), text)
            self.assertIs(Making, type(begun(target)))

    def test_is_made(self):
        target = Target.read("far zero 1 cut ; x o y z1-5")
        for text, grades, told in (
            ("far zero 1", "there there", True), ("far coarse zero 1", "there there", True), ("far", "there there", False),
            ("far zero 0", "there there", False), ("on zero 1", "there there", False), ("far zero 1", "there base", False),
            ("far zero 1", "away there", False), ("far zero 1", "there fine", False), ("far zero 1", "there coarse", False),
        ):
            self.assertIs(told, is_made(target, Making(Standing.read(text), grades.split(" "))))
        self.assertTrue(is_made(Target(), Making(Standing(), ())))
        self.assertTrue(is_made(Target(), begun(Target())))

    def test_next_makings(self):
        chance = random.Random(412)
        many = []
        for machine in (Machine(1, 1), Machine(2, 2), Machine(3, 4), Machine(1, 3)):
            for _ in range(400):
                target = random_target(chance, machine)
                making = random_making(chance, machine, target) if chance.random() < 0.9 else begun(target)
                told = list(next_makings(machine, target, making))
                self.assertEqual(next_ones(machine, target, making), told)
                self.assertTrue(all(type(after) is Making and type(entry) is str for entry, after in told))
                self.assertEqual(len(told), len({str(after) for _, after in told}))
                many.append(len(told))
        self.assertGreater(max(many), 9)

    def test_next_makings_by_hand(self):
        one = Machine(1, 2)
        for target, words, grade, told in (
            ("- ; x z0+5", "far fine zero 0", "away", ["on", "coarse", "zero 1", "x base", "x there"]),
            ("- ; x z0+5", "far coarse zero 0", "away", ["on", "fine", "zero 1", "x base", "x fine"]),
            ("- ; x z0+5", "far coarse zero 0", "fine", ["on", "fine", "zero 1", "x base"]),
            ("- ; x z0+127", "far fine zero 0", "base", ["on", "coarse", "zero 1", "x coarse"]),
            ("- ; x z0", "far coarse zero 0", "base", ["on", "fine", "zero 1", "x there"]),
            ("- ; x z1", "far coarse zero 0", "base", ["on", "fine", "zero 1"]),
            ("- ; x o+5", "on fine zero 0", "base", ["far", "coarse", "zero 1", "x there"]),
            ("- ; x o+5", "on coarse", "base", ["far", "fine", "zero 0", "zero 1", "x fine"]),
            ("- ; x o", "on coarse", "base", ["far", "fine", "zero 0", "zero 1", "x there"]),
            ("- ; x s+1", "on fine", "fine", ["far", "coarse", "zero 0", "zero 1", "x base", "x there"]),
            ("- ; x s+1", "on fine", "there", ["far", "coarse", "zero 0", "zero 1"]),
            ("- ; x s+1", "-", "away", ["far", "on", "fine", "coarse", "zero 0", "zero 1", "x base"]),
        ):
            making = Making(Standing.read(words), (grade,))
            found = [
                entry if entry != "x" else f"x {after.grades[0]}"
                for entry, after in next_makings(one, Target.read(target), making)
            ]
            self.assertEqual(told, found, (target, words, grade))

    def test_wrong_arguments(self):
        machine, target = Machine(1, 2), Target.read("- ; x z0+5")
        making = begun(target)
        for value in wrong_values(lambda value: isinstance(value, Target)):
            for work, args in ((begun, (value,)), (is_made, (value, making)), (plain_entries, (value,))):
                self.check_error(BadTarget, {"part": "target"}, work, *args)
            self.check_error(BadTarget, {"part": "target"}, next_makings, machine, value, 9)
            self.check_error(BadTarget, {"part": "target"}, fewest, machine, value)
            self.check_error(BadTarget, {"part": "target"}, shows_made, machine, value, 9)
        for value in wrong_values(lambda value: isinstance(value, Machine)):
            self.check_error(BadMachine, {"part": "machine"}, next_makings, value, 9, 9)
            self.check_error(BadMachine, {"part": "machine"}, fewest, value, 9)
            self.check_error(BadMachine, {"part": "machine"}, shows_made, value, 9, 9)
        for text in ("zero 2 ; -", "- ; y o", "- ; x z2"):
            self.check_error(BadTarget, {"part": "fit"}, next_makings, machine, Target.read(text), 9)
            self.check_error(BadTarget, {"part": "fit"}, fewest, machine, Target.read(text))
            self.check_error(BadTarget, {"part": "fit"}, shows_made, machine, Target.read(text), 9)
        wrong = [
            Making(Standing(), ()), Making(Standing(), ("away", "away")), Making(Standing(), ("far",)), Making(Standing(), "away"),
            Making(Standing(zero=2), ("away",)), Making(Standing(way="cut"), ("away",)), Making(Standing(pace=3), ("away",)),
            Making(None, ("away",)), Making(Standing(), ({0},)), Making(Standing(), (None,)), Paper("making", *making.parts),
            making.parts, Making(Standing(), {"away": 1}),
        ]
        for value in any_values() + wrong:
            self.check_error(BadPaper, {"part": "making"}, next_makings, machine, target, value)


class FewestTest(Checks, unittest.TestCase):
    def test_example(self):
        told = [fewest(Machine(1, 2), Target.read(text)) for text in ("on coarse ; x z0+5", "rapid ; x o")]
        self.assertEqual([7, 2], [len(made.preamble) for made in told])

    def check_made(self, machine, target):
        made = fewest(machine, target)
        self.assertIs(Made, type(made))
        self.assertTrue(holds(made_holds, machine, target, made), str(target))
        self.assertIs(True, shows_made(machine, target, made))
        self.assertLessEqual(len(made.preamble.blocks), len(made.preamble))
        self.assertEqual(made, fewest(machine, target))
        return made

    def test_drawn_targets(self):
        chance = random.Random(413)
        for axes, zeros in ((1, 1), (1, 4), (2, 2), (3, 1)):
            machine = Machine(axes, zeros)
            for _ in range(40):
                self.check_made(machine, random_target(chance, machine))
        self.check_made(Machine(1, 1), Target())
        self.assertEqual((Preamble(), ()), fewest(Machine(1, 1), Target()).parts)

    def test_all_kinds_of_numbers(self):
        machine = Machine(1, 2)
        for source in machine.kept:
            for number in NUMBERS:
                for text in ("-", "far fine zero 1", "on coarse", "cut", "rapid"):
                    target = Target(Standing.read(text), x=Sum(source, number))
                    made = self.check_made(machine, target)
                    self.assertEqual(str(made.preamble), str(Preamble.read(str(made.preamble))))

    def test_against_a_plain_search(self):
        """No preamble with fewer entries makes the target: all of them, one entry a block, with all numbers that help."""
        machine = Machine(1, 1)
        for text in (
            "- ; -", "rapid ; -", "cut ; -", "far ; -", "on fine ; -", "- ; x o", "rapid ; x s", "cut ; x o", "far ; x o", "on ; x z0",
            "- ; x o+5", "- ; x z0+5", "fine ; x z0", "- ; x z0",
        ):
            target = Target.read(text)
            least = len(fewest(machine, target).preamble)
            plain = [Block(Standing(way="cut"))] if "cut" in text else []
            for row in preambles_of(machine, min(least - 1, 4), (0, 1), plain):
                self.assertFalse(self.makes(machine, row, target), (text, [str(block) for block in row]))
            self.assertTrue(self.makes(machine, fewest(machine, target).preamble.blocks, target))

    def makes(self, machine, blocks, target):
        try:
            outcome = Preamble(*blocks).outcome(machine)
        except ValueError:
            return False
        return outcome.sums == target.sums and target.words.is_part_of(outcome.words)

    def test_lengths_by_hand(self):
        machine = Machine(2, 2)
        for text, many in (
            ("- ; x z0", 4), ("- ; x z0+5", 5), ("- ; x z0+127", 5), ("- ; x z0+1", 8), ("- ; x o+5", 5), ("- ; x o+1", 7),
            ("- ; x o y s", 3), ("cut ; x o y s", 4), ("on ; x z0 y z0", 6), ("- ; x z0 y z1", 6), ("- ; x z0+5 y z0-5", 6),
            ("- ; x z0+1 y z0+2", 10), ("far ; x z0+1", 9), ("zero 1 ; x z0", 5), ("far fine zero 0 rapid ; x z0+10", 5),
        ):
            self.assertEqual(many, len(fewest(machine, Target.read(text)).preamble), text)

    def test_three_axes_and_four_zeros(self):
        machine = Machine(3, 4)
        for text in ("far coarse zero 3 cut ; x z0+1 y z1+2 w z2+3", "- ; x o+1 y z1+2 w s+3"):
            target = Target.read(text)
            made = fewest(machine, target)
            self.assertTrue(shows_made(machine, target, made))
            self.assertGreater(len(made.rows), 1000)

    def test_papers(self):
        made = Made(rows=[[1, 2]], preamble=3)
        self.assertEqual((3, ((1, 2),)), (made.preamble, made.rows))
        self.assertTrue(made == Paper("made", 3, [(1, 2)]) and bool(made) and not isinstance(made, Denial))


class LookTest(Checks, unittest.TestCase):
    def test_bent_papers(self):
        chance = random.Random(414)
        machine = Machine(1, 2)
        taken = refused = 0
        for _ in range(60):
            target = random_target(chance, machine)
            made = fewest(machine, target)
            self.assertTrue(shows_made(machine, target, Made(made.preamble, unfixed(made.rows)[::-1])))
            values = list(bends(made.rows))
            values = chance.sample(values, min(25, len(values)))
            for rows in values:
                value = Made(made.preamble, rows)
                shown = shows_made(machine, target, value)
                self.assertIs(holds(made_holds, machine, target, value), shown)
                taken, refused = taken + shown, refused + (not shown)
        self.assertTrue(taken > 10 and refused > 300, (taken, refused))

    def test_each_row_counts(self):
        machine, target = Machine(1, 1), Target.read("on ; x z0+5")
        made = fewest(machine, target)
        for at, (making, number) in enumerate(made.rows):
            rows = made.rows[:at] + made.rows[at + 1:]
            self.assertFalse(shows_made(machine, target, Made(made.preamble, rows)))
            self.assertFalse(shows_made(machine, target, Made(made.preamble, made.rows + made.rows[at:at + 1])))
            for other in (number + 1, -1, True, None, 0.0, "0"):
                value = Made(made.preamble, rows + ((making, other),))
                self.assertIs(holds(made_holds, machine, target, value), shows_made(machine, target, value))
                self.assertFalse(shows_made(machine, target, value) and type(other) is not int)
            for other in (Making(making.words, ()), Making(None, making.grades), Paper("making", *making.parts), making.parts):
                self.assertFalse(shows_made(machine, target, Made(made.preamble, rows + ((other, number),))))
        last = Making(Standing.read("on fine zero 0"), ("there",))
        self.assertTrue(is_made(target, last))
        self.assertFalse(shows_made(machine, target, Made(made.preamble, made.rows + ((last, 99),))))
        away = Making(Standing.read("on coarse zero 0"), ("fine",))
        self.assertFalse(any(making == away for making, _ in made.rows))
        self.assertTrue(shows_made(machine, target, Made(made.preamble, made.rows + ((away, 99),))))
        self.assertFalse(shows_made(machine, target, Made(made.preamble, made.rows + ((away, 0),))))

    def test_numbers_may_be_less(self):
        """A making may have a row with a lesser number, if what follows from it has its rows, too."""
        machine, target = Machine(1, 1), Target.read("on ; x o")
        made = fewest(machine, target)
        self.assertEqual(3, len(made.preamble))
        self.assertTrue(shows_made(machine, target, made))
        self.assertFalse(shows_made(machine, target, Made(made.preamble, [(making, 0) for making, _ in made.rows])))
        longer = Preamble.read("on rapid ; far ; on ; home x")
        self.assertFalse(shows_made(machine, target, Made(longer, made.rows)))
        shorter = Made(Preamble.read("on rapid home x"), made.rows)
        self.assertTrue(shows_made(machine, target, shorter))

    def test_other_preambles(self):
        machine, target = Machine(1, 2), Target.read("far ; x o")
        made = fewest(machine, target)
        for text, shown in (
            ("far rapid home x", True), ("far ; rapid ; home x", True), ("rapid home x ; far", True), ("rapid home x", False),
            ("on rapid home x", False), ("far rapid touch x", False), ("far rapid", False), ("far fine zero 0 rapid x 0", False),
            ("far rapid home x y", False), ("nothing", False), ("rapid home x ; zero 2 ; far", False),
        ):
            self.assertIs(shown, shows_made(machine, target, Made(Preamble.read(text), made.rows)), text)

    def test_nothing_to_show(self):
        machine = Machine(1, 1)
        self.assertTrue(shows_made(machine, Target(), Made(Preamble(), ())))
        self.assertTrue(shows_made(machine, Target(), Made(Preamble(Block()), [])))
        target = Target.read("cut pace 3 ; -")
        self.assertTrue(shows_made(machine, target, Made(Preamble.read("pace 3 ; cut"), ())))
        self.assertFalse(shows_made(machine, target, Made(Preamble.read("pace 3 ; pace 3 ; cut"), ())))
        row = (begun(target), 0)
        self.assertFalse(shows_made(machine, target, Made(Preamble.read("pace 3 ; cut"), (row,))))

    def test_any_value(self):
        machine, target = Machine(1, 2), Target.read("far ; x o")
        made = fewest(machine, target)
        for value in any_values() + [Paper("made", *made.parts), made.parts]:
            self.assertIs(False, shows_made(machine, target, value))
            self.assertIs(False, shows_made(machine, target, Made(value, made.rows)))
            self.assertIs(False, shows_made(machine, target, Made(made.preamble, value)))
            self.assertIs(False, shows_made(machine, target, Made(made.preamble, (value,))))
            self.assertIs(False, shows_made(machine, target, Made(made.preamble, made.rows + ((value, 0),))))
            rows = ((begun(target), value),) + made.rows[1:]
            self.assertIs(is_integer(value) and value == 0, shows_made(machine, target, Made(made.preamble, rows)))


if __name__ == "__main__":
    unittest.main()
