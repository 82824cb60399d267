import itertools
import random
import unittest

from kinds import Checks, any_values, is_integer, random_block, random_programs, random_told, wrong_values
from oracles import behind
from side_by_side import blocks_in_play, compared, other_item, other_program, other_words_of, parts_at, spots, symbols
from takenup.arrivals import arrivals, nodes, plain_arrivals, plain_nodes
from takenup.blocks import Block
from takenup.errors import (
    BadMachine, BadPaper, BadProgram, BadWords, NoAxis, NoNode, NoPlace, NoRegister, TooMany,
)
from takenup.items import Round, Skip, Told
from takenup.look_alike import shows_pairs, shows_parting, shows_plains
from takenup.machines import Machine
from takenup.pairs import PairTable, Parting, PlainTable, Want, asked, pair_table, plain_table, wants
from takenup.papers import Denial, Paper
from takenup.places import runs_of
from takenup.programs import Program
from takenup.standing import Standing
from takenup.stepping import run_shift, run_words, step_shift
from takenup.sums import Sum
from takenup.tables import differences

ON = Standing.read("on fine zero 0 rapid")
ON_NUMBERS = ON.number_words
PATH = Program.read("x 0 ; on ; round ( x 4 ; here x 0 ) ; far x 0")
MANY = {"what": "nodes", "most": 2000}


def all_node_words(machine):
    return [words | Standing(way=way) for words in Standing().fillings(machine) for way in ("rapid", "cut")]


def all_number_words(machine):
    return list(Standing().fillings(machine))


def first_runs(program, most, limit, begin=None):
    return list(itertools.islice(runs_of(program, most, begin), limit))


def played_wants(machine, axis, words, step, other, second, most=None):
    """The parts of the Wants of a step, by playing both machines from symbols of their own."""
    numbers, other_numbers = symbols(machine), symbols(machine)
    held = {"tool": 0, "pace": 0, "spindle": "still", **dict(words)}
    other_held = {"way": "rapid", **dict(other)}
    rows, found = [], {}
    blocks = blocks_in_play(second, most)
    for inside, block in blocks_in_play(step, most):
        for what, at, one, another in compared(machine, block, next(blocks)[1], held, numbers, other_held, other_numbers):
            if at == axis:
                told = found.setdefault((one.source, another.source), [])
                number = another.number - one.number
                if len(told) < 2 and number not in told:
                    told.append(number)
                    rows.append((one.source, another.source, number, (), inside, what))
    return rows


class WantsTest(Checks, unittest.TestCase):
    def test_example(self):
        often, on = Program.read("told 9 ( x 1 ; lay x 1 )"), Standing.read("on fine zero 0 rapid")
        told = [str(want) for want in wants(Machine(1, 1), "x", on, often[0], Standing.read("on coarse zero 0"))]
        self.assertEqual(["p - p = 122", "z0 - z0 = 0", "z0 - z0 = 122", "p - p = 244"], told)

    def test_the_paper(self):
        want = Want("p", "z0", -7)
        self.assertEqual(("p", "z0", -7, (), (), "ends"), want.parts)
        self.assertEqual("p - z0 = -7", str(want))
        want = Want(what="z1", inside=[0, 1], run_on=[2, 3], number=10 ** 20, other="o", one="s")
        self.assertEqual(("s", "o", 10 ** 20), (want.one, want.other, want.number))
        self.assertEqual(((2, 3), (0, 1), "z1"), (want.run_on, want.inside, want.what))
        self.assertTrue(want == Paper("want", "s", "o", 10 ** 20, (2, 3), (0, 1), "z1") and bool(want))
        self.assertFalse(isinstance(want, Denial))
        self.assertIn("__str__", vars(Want))

    def test_by_playing_turn_by_turn(self):
        chance = random.Random(151)
        for _ in range(1200):
            axes, zeros = chance.randint(1, 3), chance.randint(1, 4)
            machine = Machine(axes, zeros)
            depth = chance.choice([0, 0, 1, 2])
            step = random_told(chance, depth, axes, zeros, chance.choice([1, 2, 3, 9])) if depth else (
                random_block(chance, axes, zeros)
            )
            second = other_item(chance, step, axes, zeros) if chance.random() < 0.6 else step
            words, other = chance.choice(all_node_words(machine)), chance.choice(all_number_words(machine))
            axis = chance.choice(machine.axes)
            told = wants(machine, axis, words, step, other, second)
            self.assertTrue(all(type(want) is Want for want in told) and isinstance(told, tuple))
            self.assertEqual(played_wants(machine, axis, words, step, other, second), [want.parts for want in told])
            if second is step:
                self.assertEqual(told, wants(machine, axis, words, step, other))

    def test_many_turns(self):
        """What comes behind the turn with the index 2 * r * r adds nothing."""
        chance = random.Random(152)
        for at in range(120):
            machine = Machine(1, chance.randint(1, 2 if at % 4 else 1))
            most = 2 * len(machine.registers) ** 2 + 1
            row = [random_block(chance, 1, machine.zeros) for _ in range(chance.randint(1, 4))]
            if at % 4 == 0:
                row.insert(chance.randint(0, len(row)), Told(chance.randint(1, most), *row[:2]))
            step = Told(10 ** 12 - at, *row)
            second = other_item(chance, step, 1, machine.zeros) if chance.random() < 0.5 else step
            words, other = chance.choice(all_node_words(machine)), chance.choice(all_number_words(machine))
            told = wants(machine, "x", words, step, other, second)
            self.assertEqual(
                played_wants(machine, "x", words, step, other, second, most), [want.parts for want in told]
            )

    def test_wrong_arguments(self):
        machine = Machine(1, 2)
        block, told = Block.read("x 1"), Program.read("told 3 ( x 1 ; told 2 ( - ) )")[0]
        for value in wrong_values(lambda value: isinstance(value, Machine)):
            self.check_error(BadMachine, {"part": "machine"}, wants, value, 9, 9, 9, 9, 9)
        for value in wrong_values(lambda value: isinstance(value, str) and value == "x"):
            self.check_error(NoAxis, {"axis": value}, wants, machine, value, 9, 9, 9, 9)
        for value in any_values() + [ON.number_words, ON | Standing(pace=0), ON | Standing(zero=2)]:
            self.check_error(BadWords, {"part": "words"}, wants, machine, "x", value, 9, 9, 9)
        bad = [Block.read("y 1"), Block.read("zero 2"), Told(2, block, Told(2, Block.read("home w")))]
        for value in wrong_values(lambda value: isinstance(value, (Block, Told))) + bad:
            self.check_error(BadProgram, {"part": "step"}, wants, machine, "x", ON, value, 9, 9)
        for value in any_values() + [ON, Standing(reading="on", unit="fine"), ON_NUMBERS | Standing(zero=3)]:
            self.check_error(BadWords, {"part": "other"}, wants, machine, "x", ON, block, value, 9)
        others = bad + [told, Told(3, block), Told(2, *told.members), Told(3, *told.members[::-1])]
        for value in wrong_values(lambda value: value is None or isinstance(value, Block)) + others:
            self.check_error(BadProgram, {"part": "second"}, wants, machine, "x", ON, block, ON_NUMBERS, value)
        for value in wrong_values(lambda value: value is None) + others[:3] + others[4:]:
            self.check_error(BadProgram, {"part": "second"}, wants, machine, "x", ON, told, ON_NUMBERS, value)
        self.assertEqual(3, len(wants(machine, "x", ON, block, ON_NUMBERS, Block.read("home x"))))


class AskedTest(Checks, unittest.TestCase):
    def played(self, program, second, machine, axis, place, words, other, most=4, limit=60):
        """The numbers that runs on of few steps ask of each pair."""
        found = {}
        for run_on in first_runs(program, most, limit, place):
            for want in self.wants_along(program, second, machine, axis, run_on, words, other):
                found.setdefault(want[:2], set()).add(want[2])
        return found

    def wants_along(self, program, second, machine, axis, run_on, words, other):
        held = {"tool": 0, "pace": 0, "spindle": "still", **dict(words)}
        played = spots(
            program, second, machine, run_on, held, symbols(machine), {"way": "rapid", **dict(other)}, symbols(machine)
        )
        for upto, inside, what, at, one, another in played:
            if at == axis:
                yield one.source, another.source, another.number - one.number, upto, inside, what

    def test_by_playing_all_runs_on_of_few_steps(self):
        chance = random.Random(153)
        for axes, zeros in ((1, 2), (2, 1), (1, 3)):
            machine = Machine(axes, zeros)
            for program in random_programs(150 + zeros, 50, depth=3, axes=axes, zeros=zeros):
                second = other_program(chance, program, axes, zeros) if chance.random() < 0.5 else program
                axis, place = chance.choice(machine.axes), chance.randint(0, program.end)
                words, other = chance.choice(all_node_words(machine)), chance.choice(all_number_words(machine))
                told = asked(program, machine, axis, place, words, other, second)
                self.check_asked(told, program, second, machine, axis, place, words, other)
                if second is program:
                    self.assertEqual(told, asked(program, machine, axis, place, words, other))

    def check_asked(self, told, program, second, machine, axis, place, words, other):
        found = {}
        for want in told:
            found.setdefault((want.one, want.other), []).append(want.number)
            self.assertEqual(place, want.run_on[0])
            along = self.wants_along(program, second, machine, axis, want.run_on, words, other)
            self.assertIn(want.parts, list(along))
        names = machine.registers
        order = [(names.index(want.one), names.index(want.other)) for want in told]
        self.assertEqual(sorted(order), order)
        for numbers in found.values():
            self.assertTrue(len(numbers) == 1 or len(numbers) == 2 and numbers[0] != numbers[1])
        for pair, numbers in self.played(program, second, machine, axis, place, words, other).items():
            self.assertTrue(len(found[pair]) == 2 or set(found[pair]) == numbers, pair)

    def test_by_hand(self):
        told = asked(PATH, Machine(1, 2), "x", 2, ON, Standing.read("far fine zero 0"))
        self.assertEqual(["p - z0 = 0", "z0 - z0 = 0", "z1 - z1 = 0"], [str(want) for want in told])
        self.assertEqual((), asked(PATH, Machine(1, 2), "x", PATH.end, ON, ON_NUMBERS))
        nowhere = Standing.read("on coarse zero 1 cut")
        self.assertEqual(3, len(asked(PATH, Machine(1, 2), "x", 0, nowhere, nowhere.number_words)))

    def test_wrong_arguments(self):
        machine = Machine(1, 2)
        for value in wrong_values(lambda value: isinstance(value, Program)):
            self.check_error(BadProgram, {"part": "program"}, asked, value, 9, 9, 99, 9, 9, 9)
        for value in wrong_values(lambda value: isinstance(value, Machine)):
            self.check_error(BadMachine, {"part": "machine"}, asked, PATH, value, 9, 99, 9, 9, 9)
        self.check_error(BadMachine, {"part": "fit"}, asked, Program.read("y 1"), machine, 9, 99, 9, 9, 9)
        for value in wrong_values(lambda value: isinstance(value, str) and value == "x"):
            self.check_error(NoAxis, {"axis": value}, asked, PATH, machine, value, 99, 9, 9, 9)
        for value in wrong_values(lambda value: is_integer(value) and 0 <= value <= PATH.end):
            self.check_error(NoPlace, {"place": value}, asked, PATH, machine, "x", value, 9, 9, 9)
        for value in any_values() + [ON_NUMBERS, ON | Standing(tool=0), ON | Standing(zero=2)]:
            self.check_error(BadWords, {"part": "words"}, asked, PATH, machine, "x", 0, value, 9, 9)
        for value in any_values() + [ON, Standing(zero=0), ON_NUMBERS | Standing(zero=2)]:
            self.check_error(BadWords, {"part": "other"}, asked, PATH, machine, "x", 0, ON, value, 9)
        self.check_seconds(lambda second: asked(PATH, machine, "x", 0, ON, ON_NUMBERS, second))

    def check_seconds(self, work):
        for value in wrong_values(lambda value: value is None or isinstance(value, Program)):
            self.check_error(BadProgram, {"part": "second"}, work, value)
        self.check_error(BadProgram, {"part": "shape"}, work, Program.read("y 0"))
        text = "{} ; on ; round ( x 4 ; here x 0 ) ; far x 0"
        for block in ("y 0", "zero 2", "zero 3 x 1"):
            self.check_error(BadMachine, {"part": "fit"}, work, Program.read(text.format(block)))


def many_pairs(blank_ahead, blank_behind):
    """A round of ten skips of words, at each of whose places come about 90 pair nodes if the other words begin apart.

    These are 3 pairs of readings, 3 of units, 5 of zeros, 2 ways; also at each blank behind and at the end. At a blank
    ahead there is one for each opening.
    """
    texts = ("far", "on", "fine", "coarse", "zero 0", "zero 1", "zero 2", "zero 3", "rapid", "cut")
    skips = [Skip(Program.read(text)[0]) for text in texts]
    blank = Block()
    return Program(*[blank for _ in range(blank_ahead)], Round(*skips), *[blank for _ in range(blank_behind)])


def plain_pairs_program(many):
    """100 plain pairs at each of 20 places, and more blocks ahead."""
    skips = [Skip(Block(Standing(pace=at))) for at in range(1, 10)] + [Skip(Block(Standing(tool=at))) for at in range(1, 10)]
    return Program(*[Block() for _ in range(many - 2000)], Round(*skips), Block())


class PairTableTest(Checks, unittest.TestCase):
    def random_openings(self, chance, program, machine):
        openings = []
        for _ in range(chance.randint(1, 3)):
            place, words = chance.choice(list(nodes(program)))
            other = words.number_words if chance.random() < 0.6 else chance.choice(all_number_words(machine))
            held = None if chance.random() < 0.2 else Sum(chance.choice(machine.registers), chance.choice([0, 0, 5, -10]))
            openings.append((place, words, other, Sum("p") if chance.random() < 0.5 else held))
        return openings

    def settled(self, program, second, machine, axis, openings):
        """The known differences at all pair nodes that come about, pair by pair; and whether all wants are met."""
        table = differences(program, machine)
        names = machine.registers
        known = {}
        queue = []
        for place, words, other, held in openings:
            numbers = {}
            for one, another in itertools.product(names, repeat=2):
                if another == "p":
                    number = None if held is None else table(place, words, axis, one, held.source)
                    number = None if number is None else number - held.number
                else:
                    number = table(place, words, axis, one, another)
                numbers[one, another] = number
            queue.append(((place, str(words), str(other)), numbers))
        while queue:
            key, numbers = queue.pop()
            old = known.get(key)
            new = numbers if old is None else {
                pair: number if old[pair] == number else None for pair, number in numbers.items()
            }
            if new == old:
                continue
            known[key] = new
            place, words, other = key[0], Standing.read(key[1]), Standing.read(key[2])
            if place == program.end:
                continue
            one_shift = step_shift(machine, words, program[place], axis)
            other_shift = step_shift(machine, other, second[place], axis)
            numbers = {}
            for one, another in new:
                first, last = one_shift[one], other_shift[another]
                number = new[first.source, last.source]
                numbers[one, another] = None if number is None else number + first.number - last.number
            texts = (str(behind(words, program[place])), str(behind(other, second[place], Standing.NUMBER_NAMES)))
            queue.extend(((after, *texts), numbers) for after in program.after(place))
        met = all(
            known[place, text, other_text][want.one, want.other] == want.number
            for place, text, other_text in known if place < program.end
            for want in wants(
                machine, axis, Standing.read(text), program[place], Standing.read(other_text), second[place]
            )
        )
        return known, met

    def test_by_pairs_one_by_one(self):
        chance = random.Random(154)
        tables = partings = 0
        for axes, zeros in ((1, 1), (1, 3), (2, 2)):
            machine = Machine(axes, zeros)
            for program in random_programs(155 + zeros, 60, depth=3, axes=axes, zeros=zeros):
                second = other_program(chance, program, axes, zeros) if chance.random() < 0.3 else program
                axis, openings = chance.choice(machine.axes), self.random_openings(chance, program, machine)
                told = pair_table(program, machine, axis, openings, second)
                known, met = self.settled(program, second, machine, axis, openings)
                self.assertEqual(met, bool(told))
                if met:
                    tables += 1
                    self.check_table(told, known, machine, axis)
                    self.check_by_playing(told, program, second, machine, axis, openings)
                    self.assertTrue(shows_pairs(program, machine, axis, openings, told, second))
                else:
                    partings += 1
                    self.check_parting(told, program, second, machine, axis, openings)
                if second is program:
                    self.assertEqual(told, pair_table(program, machine, axis, [list(one) for one in openings]))
        self.assertTrue(tables > 30 and partings > 60, (tables, partings))

    def check_table(self, told, known, machine, axis):
        self.assertEqual((PairTable, axis), (type(told), told.axis))
        rows = []
        for key in sorted(known):
            pairs = itertools.product(machine.registers, repeat=2)
            triples = [(one, another, known[key][one, another]) for one, another in pairs]
            rows.append((*key, tuple(triple for triple in triples if triple[2] is not None)))
        self.assertEqual(tuple(rows), told.rows)

    def check_by_playing(self, told, program, second, machine, axis, openings):
        """Both machines are played along runs on of few steps, from some arrivals: all that is told holds there."""
        for place, words, other, held in openings:
            runs = [run for run in first_runs(program, 4, 60) if run[-1] == place]
            for run in [run for run in runs if run_words(program, run).node_words == words][:3]:
                begun = run_shift(program, machine, run, axis)
                ahead = dict(begun)
                other_ahead = {**ahead, "p": Sum("p", 10 ** 40) if held is None else ahead[held.source] + held.number}
                for run_on in first_runs(program, 3, 20, place):
                    first = run_shift(program, machine, run_on, axis, words)
                    last = run_shift(second, machine, run_on, axis, other)
                    held_words = run_words(program, run_on, words).node_words
                    node = (run_on[-1], held_words, run_words(second, run_on, other).number_words)
                    self.assertIn(node, told)
                    for one, another in itertools.product(machine.registers, repeat=2):
                        number = told(*node, one, another)
                        if number is not None:
                            source, other_source = ahead[first[one].source], other_ahead[last[another].source]
                            self.assertEqual(source.source, other_source.source)
                            found = source.number + first[one].number - other_source.number - last[another].number
                            self.assertEqual(number, found)

    def check_parting(self, told, program, second, machine, axis, openings):
        self.assertIs(Parting, type(told))
        shown = []
        for place, words, other, held in openings:
            shows = shows_parting(program, machine, axis, other, held, told, second)
            self.assertIs(parts_at(program, second, machine, axis, other, held, told) is True, shows)
            shown.append(shows and told.run[-1] == place)
        self.assertIn(True, shown)

    def test_openings_by_hand(self):
        machine = Machine(1, 2)
        far = Standing.read("far fine zero 0")
        for held, alike in (
            (None, False), (Sum("p"), True), (Sum("z0"), False), (Sum("z0", 20), True), (Sum("p", 1), False), (Sum("o"), False),
        ):
            told = pair_table(PATH, machine, "x", [(3, ON, ON_NUMBERS, held)])
            self.assertEqual(alike, bool(told), held)
        told = pair_table(PATH, machine, "x", ((2, ON, far, None), [4, ON, far, None]))
        self.assertTrue(told)
        self.assertEqual(20, told(3, ON, far, "p", "z0"))
        self.assertFalse(pair_table(PATH, machine, "x", [(2, ON, ON_NUMBERS, None), (2, ON, far, None)]))
        end = pair_table(PATH, machine, "x", [(5, arrivals(PATH, 5)[0][0], Standing.read("on coarse zero 1"), None)])
        self.assertEqual(1, len(end))

    def test_great_tolds(self):
        program = Program.read("x 0 ; told 1000000000000 ( on lay x 1 ; x 1 ) ; far x 0")
        words, machine = Standing.first().node_words, Machine(1, 1)
        self.assertTrue(pair_table(program, machine, "x", [(1, words, words.number_words, Sum("z0"))]))
        self.assertFalse(pair_table(program, machine, "x", [(1, words, words.number_words, Sum("z0", 1))]))
        second = Program.read("x 0 ; told 1000000000000 ( on lay x 1 ; coarse x 0 ) ; far x 0")
        told = pair_table(program, machine, "x", [(0, words, words.number_words, Sum("p"))], second)
        self.assertTrue(shows_parting(program, machine, "x", words.number_words, Sum("p"), told, second))

    def test_two_thousand_pair_nodes(self):
        machine = Machine(1, 4)
        first, other = Standing.first().node_words, Standing.read("on coarse zero 3")
        both = [(0, first, first.number_words, None), (0, first, other, Sum("p"))]
        exact, more = many_pairs(10, 11), many_pairs(11, 11)
        told = pair_table(exact, machine, "x", both)
        self.assertEqual(2000, len(told))
        self.assertTrue(shows_pairs(exact, machine, "x", both, told))
        self.check_error(TooMany, MANY, pair_table, more, machine, "x", both)
        self.assertEqual(1, len(pair_table(more, machine, "x", [(more.end, first, other, None)])))
        self.assertEqual(4, len(asked(many_pairs(19, 11), machine, "x", 0, first, other)))
        self.check_error(TooMany, MANY, asked, many_pairs(18, 12), machine, "x", 0, first, other)

    def test_wrong_arguments(self):
        machine = Machine(1, 2)
        good = [(3, ON, ON_NUMBERS, Sum("p"))]
        for work in (pair_table, lambda *args: shows_pairs(*args[:4], None, *args[4:])):
            for value in wrong_values(lambda value: isinstance(value, Program)):
                self.check_error(BadProgram, {"part": "program"}, work, value, 9, 9, 9, 9)
            for value in wrong_values(lambda value: isinstance(value, Machine)):
                self.check_error(BadMachine, {"part": "machine"}, work, PATH, value, 9, 9, 9)
            self.check_error(BadMachine, {"part": "fit"}, work, Program.read("zero 2"), machine, 9, 9, 9)
            for value in wrong_values(lambda value: isinstance(value, str) and value == "x"):
                self.check_error(NoAxis, {"axis": value}, work, PATH, machine, value, 9, 9)
            for value in any_values():
                self.check_error(BadPaper, {"part": "openings"}, work, PATH, machine, "x", value, 9)
                self.check_error(BadPaper, {"part": "openings"}, work, PATH, machine, "x", good + [value], 9)
            for at in range(4):
                for value in wrong_values(lambda value: at == 0 and is_integer(value) and 2 <= value <= 4 or at == 3 and (
                    value is None or isinstance(value, Sum)
                )):
                    opening = good[0][:at] + (value,) + good[0][at + 1:]
                    self.check_error(BadPaper, {"part": "openings"}, work, PATH, machine, "x", good + [opening], 9)
            for opening in (
                (3, Standing.first().node_words, ON_NUMBERS, None), (3, ON | Standing(pace=0), ON_NUMBERS, None),
                (3, ON, ON, None), (3, ON, ON_NUMBERS | Standing(zero=2), None), (3, ON, Standing(zero=0), None),
                (3, ON, ON_NUMBERS, Sum("z2")), (True, ON, ON_NUMBERS, None), (3, ON, ON_NUMBERS), (6, ON, ON_NUMBERS, None),
            ):
                self.check_error(BadPaper, {"part": "openings"}, work, PATH, machine, "x", (opening,), 9)
            AskedTest.check_seconds(self, lambda second: work(PATH, machine, "x", good, second))

    def test_nothing_that_is_passed_changes(self):
        openings = [[3, ON, ON_NUMBERS, Sum("p")]]
        told = pair_table(PATH, Machine(1, 2), "x", openings)
        again = pair_table(PATH, Machine(1, 2), "x", openings)
        openings[0][0] = 99
        openings.append(None)
        self.assertEqual(told, again)


class PairTablePaperTest(Checks, unittest.TestCase):
    def setUp(self):
        self.rows = [[3, str(ON), "far fine zero 1", [["p", "p", 0], ["z0", "p", -20]]], (2, str(ON), "on fine zero 0", ())]
        self.table = PairTable("x", self.rows)

    def test_the_paper(self):
        self.assertEqual(("x", 2), (self.table.axis, len(self.table)))
        self.assertEqual((3, str(ON), "far fine zero 1", (("p", "p", 0), ("z0", "p", -20))), self.table.rows[0])
        self.assertTrue(self.table == Paper("pairtable", "x", self.rows) == PairTable(rows=self.rows, axis="x"))
        self.assertTrue(bool(PairTable("x", ())) and not isinstance(self.table, Denial))
        self.rows[0][3][0][2] = 9
        self.assertEqual(0, self.table(3, ON, Standing.read("far fine zero 1"), "p", "p"))
        for name in ("__call__", "__contains__", "__len__", "__iter__"):
            self.assertIn(name, vars(PairTable))
        for value in any_values():
            PairTable(value, value)
            PlainTable(value)

    def test_nodes(self):
        far = Standing.read("far fine zero 1")
        self.assertEqual([(3, ON, far), (2, ON, ON_NUMBERS)], list(self.table))
        self.assertTrue((3, ON, far) in self.table and [2, ON, ON_NUMBERS] in self.table)
        for value in any_values() + [(3, ON), (3, ON, ON_NUMBERS), (2, ON, far), (3, far, ON), (3, ON, far, far)]:
            self.assertFalse(value in self.table)
            self.assertFalse((value, ON, far) in self.table and value != 3)
            self.assertFalse((3, value, far) in self.table or (3, ON, value) in self.table)
        one = PairTable("x", [(1, str(ON), str(far), ())])
        self.assertTrue((1, ON, far) in one)
        self.assertFalse((True, ON, far) in one)

    def test_numbers(self):
        far = Standing.read("far fine zero 1")
        self.assertEqual([0, -20, None, None], [
            self.table(3, ON, far, *pair) for pair in (("p", "p"), ("z0", "p"), ("p", "z0"), ("z3", "z3"))
        ])
        for value in wrong_values(lambda value: is_integer(value) and value == 3):
            self.check_error(NoNode, {"place": value, "words": ON}, self.table, value, ON, far, "q", "q")
        for value in any_values() + [far]:
            self.check_error(NoNode, {"place": 3, "words": value}, self.table, 3, value, far, "q", "q")
            if not isinstance(value, Standing) or value != far:
                self.check_error(NoNode, {"place": 3, "words": ON}, self.table, 3, ON, value, "q", "q")
        for value in wrong_values(lambda value: isinstance(value, str) and value in Sum.NAMES):
            self.check_error(NoRegister, {"name": value}, self.table, 3, ON, far, value, "q")
            self.check_error(NoRegister, {"name": value}, self.table, 3, ON, far, "s", value)

    def test_plain_tables(self):
        first = Standing.first().plain_words
        rows = [[0, str(first), "-"], (2, str(first), "cut pace 3")]
        table = PlainTable(rows)
        self.assertEqual(tuple(map(tuple, rows)), table.rows)
        self.assertEqual([(0, first, Standing()), (2, first, Standing.read("cut pace 3"))], list(table))
        self.assertEqual(2, len(table))
        self.assertTrue((0, first, Standing()) in table and [0, first, Standing()] in table)
        self.assertTrue(table == Paper("plaintable", rows) == PlainTable(rows=rows) and bool(PlainTable(())))
        for value in any_values() + [(0, first), (False, first, Standing()), (2, first, Standing())]:
            self.assertFalse(value in table)
        for name in ("__contains__", "__len__", "__iter__"):
            self.assertIn(name, vars(PlainTable))

    def test_partings(self):
        told = Parting(what="mark", inside=[0, 1], run_on=[1, 2], run=[0, 1])
        self.assertEqual(((0, 1), (1, 2), (0, 1), "mark"), (told.run, told.run_on, told.inside, told.what))
        self.assertTrue(isinstance(told, Denial) and not told)
        self.assertEqual(told, Paper("parting", (0, 1), (1, 2), (0, 1), "mark"))


class PlainTableTest(Checks, unittest.TestCase):
    def come_about(self, program, second, openings):
        """All plain pair nodes, by words_behind."""
        found, queue = set(), [(place, str(words), str(other)) for place, words, other in openings]
        while queue:
            key = queue.pop()
            if key not in found:
                found.add(key)
                place, words, other = key[0], Standing.read(key[1]), Standing.read(key[2])
                if place < program.end:
                    texts = (str(behind(words, program[place], Standing.PLAIN_NAMES)), str(
                        behind(other, second[place], Standing.PLAIN_NAMES)
                    ))
                    queue.extend((after, *texts) for after in program.after(place))
        return sorted(found)

    def agrees(self, program, second, keys):
        """Whether the machines agree in each step, tolds played for up to two turns."""
        machine = Machine(3, 4)
        for place, text, other_text in keys:
            if place < program.end:
                words = {"reading": "far", "unit": "fine", "zero": 0, **dict(Standing.read(text))}
                other = other_words_of(Standing.read(other_text))
                run_on = (place, program.after(place)[0])
                for spot in spots(program, second, machine, run_on, words, symbols(machine), other, symbols(machine), 2):
                    if spot[3] is None and spot[4] != spot[5]:
                        return False
        return True

    def test_by_playing(self):
        chance = random.Random(156)
        tables = partings = 0
        for program in random_programs(157, 200, depth=3, axes=2):
            second = other_program(chance, program, 2, 2) if chance.random() < 0.3 else program
            openings = []
            for place, words in chance.sample(list(plain_nodes(program)), 1):
                other = words if chance.random() < 0.6 else Standing()
                name = chance.choice(Standing.PLAIN_NAMES)
                openings.append((place, words, other.with_word(name, chance.choice([None, words[name]]))))
            told = plain_table(program, openings, second)
            keys = self.come_about(program, second, openings)
            self.assertEqual(self.agrees(program, second, keys), bool(told))
            if told:
                tables += 1
                self.assertEqual((PlainTable, tuple(keys)), (type(told), told.rows))
                self.assertTrue(shows_plains(program, openings, told, second))
            else:
                partings += 1
                self.assertIs(Parting, type(told))
                machine = Machine(2, 2)
                shown = [
                    shows_parting(program, machine, None, other, 9, told, second) and told.run[-1] == place
                    and parts_at(program, second, machine, None, other, None, told)
                    for place, _, other in openings
                ]
                self.assertIn(True, shown)
        self.assertTrue(tables > 30 and partings > 30, (tables, partings))

    def test_by_hand(self):
        program = Program.read("told 2 ( x 1 ; cut ) ; pace 3 x 1")
        first = Standing.first().plain_words
        for text, alike in (
            ("rapid tool 0 still", False), ("rapid tool 0 pace 0 still", True), ("-", False), ("rapid", False),
        ):
            told = plain_table(program, [[0, first, Standing.read(text)]])
            self.assertEqual(alike, bool(told))
        self.assertEqual((1, 0), plain_table(program, [(0, first, Standing(way="rapid"))]).inside)
        cut = plain_arrivals(program, 1)[0][0]
        self.assertTrue(plain_table(program, [(1, cut, Standing.read("cut tool 0 still"))]))
        self.assertFalse(plain_table(program, [(1, cut, Standing.read("cut tool 0"))]))
        self.assertEqual(1, len(plain_table(program, [(2, plain_arrivals(program, 2)[0][0], Standing())])))

    def test_a_second_program(self):
        program, second = Program.read("x 1 ; x 1"), Program.read("x 1 ; here x 1")
        first = Standing.first().plain_words
        told = plain_table(program, [(0, first, first)], second)
        self.assertEqual(("mark", (0, 1, 2), (0,)), (told.what, told.run_on, told.run))
        self.assertTrue(plain_table(Program.read("here x 1"), [(0, first, Standing())], Program.read("lay x 4 y 1")))

    def test_two_thousand_plain_pair_nodes(self):
        exact, more = plain_pairs_program(2000), plain_pairs_program(2001)
        first = Standing.first().plain_words
        self.assertEqual(2000, len(plain_table(exact, [(start, first, first) for start in exact.starts])))
        self.check_error(TooMany, MANY, plain_table, more, [(start, first, first) for start in more.starts])
        self.assertEqual(1, len(plain_table(more, [(more.end, first, Standing())])))

    def test_wrong_arguments(self):
        first = Standing.first().plain_words
        good = [(0, first, Standing())]
        for work in (plain_table, lambda *args: shows_plains(*args[:2], None, *args[2:])):
            for value in wrong_values(lambda value: isinstance(value, Program)):
                self.check_error(BadProgram, {"part": "program"}, work, value, 9, 9)
            for value in any_values():
                self.check_error(BadPaper, {"part": "openings"}, work, PATH, value, 9)
                self.check_error(BadPaper, {"part": "openings"}, work, PATH, good + [value], 9)
                if not is_integer(value) or not 0 <= value <= PATH.end:
                    self.check_error(BadPaper, {"part": "openings"}, work, PATH, [(value, first, first)], 9)
                self.check_error(BadPaper, {"part": "openings"}, work, PATH, [(0, value, first)], 9)
                if not isinstance(value, Standing) or value != Standing():
                    self.check_error(BadPaper, {"part": "openings"}, work, PATH, [(0, first, value)], 9)
            for opening in (
                (0, first | Standing(pace=1), first), (0, Standing.first(), first), (0, first, ON), (0, first), (6, first, first),
                (0, first, first, None), (0, first, Standing.first()),
            ):
                self.check_error(BadPaper, {"part": "openings"}, work, PATH, [opening], 9)
            for value in wrong_values(lambda value: value is None or isinstance(value, Program)):
                self.check_error(BadProgram, {"part": "second"}, work, PATH, good, value)
            self.check_error(BadProgram, {"part": "shape"}, work, PATH, good, Program.read("x 0"))


if __name__ == "__main__":
    unittest.main()
