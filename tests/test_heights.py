import itertools
import random
import unittest

from kinds import Checks, any_values, is_integer, random_programs, wrong_values
from oracles import bends, difference_on, heights_hold, holds, unfixed
from takenup.arrivals import arrivals, nodes
from takenup.errors import BadMachine, BadProgram, NoAxis, NoNode, NoPlace, NoRegister, TooMany
from takenup.heights import Free, Most, Rising, between, greatest, least
from takenup.items import Round, Skip, depth_of
from takenup.look_heights import shows_greatest
from takenup.machines import Machine
from takenup.papers import Denial, Paper
from takenup.places import is_run, runs_of
from takenup.programs import Program
from takenup.standing import Standing
from takenup.stepping import run_words, step_shift
from takenup.tables import differences, edges

FIRST_NODE = Standing.first().node_words
PATHS = [Program.read(text) for text in (
    "x 0 ; on ; round ( x 4 ; here x 0 ) ; far x 0",
    "here x 0 ; round ( on x 1 ; skip ( x -3 ) )",
    "here x 0 ; round ( on x 1 ; skip ( x -3 ) ; far x 0 )",
    "here x 0 ; skip ( on x 2 ) ; skip ( on coarse x -1 ) ; skip ( far x 7 )",
    "here x 0 ; round ( skip ( lay x -1 ) ; skip ( lay x -2 ; zero 1 here x 0 ; zero 0 ) )",
    "home x ; here x 1 ; zero 1 here x 5 ; round ( told 1000000000000 ( lay x 1 ; zero 0 lay x 1 ) ; zero 1 )",
    "home x ; here x 0 ; zero 1 here x 0 ; round ( on x 1 ; zero 0 here x 0 ; skip ( zero 1 here x 2 ) ; zero 1 )",
    "touch x ; here x 0 ; round ( zero 1 here x 0 ; on x 1 ; zero 0 here x 0 ; x -1 )",
    "home x ; here x 0 ; zero 1 here x 0 ; on ; round ( skip ( x 3 ; zero 1 here x 0 ) ; skip ( zero 0 x -3 ; here x 0 ) )",
)]
# A ring of twenty skips, which all add to one zero, with a block that takes away as much as all of them.
BACK_TO_ZERO = Program.read(
    "here x 0 ; round ( " + " ; ".join([f"skip ( lay x {at} )" for at in range(20)]) + " ; lay x -190 )"
)


def first_runs(program, place, words, most=7, limit=700):
    for run in itertools.islice(runs_of(program, most), limit):
        if run[-1] == place and words in (None, run_words(program, run).node_words):
            yield run


class GreatestTest(Checks, unittest.TestCase):
    def check_asked(self, program, machine, place, axis, one, other, words):
        args = (program, machine, place, axis, one, other, words)
        told = greatest(*args)
        self.check_paper(told, *args)
        back = greatest(program, machine, place, axis, other, one, words)
        self.assertEqual(back, least(*args))
        number = told.number if isinstance(told, Most) else None
        low = -back.number if isinstance(back, Most) else None
        self.assertEqual((low, number), between(*args))
        self.assertEqual(isinstance(told, Free), isinstance(back, Free))
        return told.word

    def check_paper(self, told, program, machine, place, axis, one, other, words):
        args = (program, machine, place, axis, one, other)
        self.assertIn(type(told), (Most, Rising, Free))
        self.assertEqual(isinstance(told, Most), bool(told))
        self.assertIs(True, shows_greatest(*args, told, words))
        self.assertTrue(holds(heights_hold, *args, words, told))
        as_lists = type(told)(*[unfixed(part) for part in told.parts])
        self.assertIs(True, shows_greatest(*args, value=as_lists, words=words))
        found = [difference_on(program, machine, run, axis, one, other) for run in first_runs(program, place, words, 5, 150)]
        if isinstance(told, Free):
            self.assertIsNone(difference_on(program, machine, told.run, axis, one, other))
            return
        self.assertNotIn(None, found)
        if isinstance(told, Most):
            self.assertTrue(all(number <= told.number for number in found))
            self.check_rows(told, *args, words)
        else:
            self.check_rising(told, *args)

    def check_rows(self, told, program, machine, place, axis, one, other, words):
        """The rows are just those that the document asks for, in order, each of them a greatest difference."""
        order = {(at, str(held)): index for index, (at, held) in enumerate(nodes(program))}
        wanted, queue = set(), []
        if one != other:
            queue = [(place, str(held), one, other) for at, held in nodes(program) if at == place and words in (None, held)]
        links = list(edges(program))
        while queue:
            row = queue.pop()
            if row in wanted:
                continue
            wanted.add(row)
            for at, held, after, behind in links:
                if (after, str(behind)) == row[:2]:
                    source, other_source, _ = step_shift(machine, held, program[at], axis).pulled(*row[2:])
                    if source != other_source:
                        queue.append((at, str(held), source, other_source))
        names = machine.registers
        rows = sorted(wanted, key=lambda row: (order[row[:2]], names.index(row[2]), names.index(row[3])))
        self.assertEqual(rows, [row[:4] for row in told.rows])
        self.assertTrue(all(is_integer(row[4]) for row in told.rows))
        for at, text, name, other_name, height in told.rows[:4]:
            found = greatest(program, machine, at, axis, name, other_name, Standing.read(text))
            self.assertEqual(height, found.number)

    def check_rising(self, told, program, machine, place, axis, one, other):
        for times in range(3):
            first = told.run + told.ring[1:] * times + told.on[1:]
            second = told.run + told.ring[1:] * (times + 1) + told.on[1:]
            self.assertTrue(is_run(program, second) and second[-1] == place)
            found = [difference_on(program, machine, run, axis, one, other) for run in (first, second)]
            self.assertGreater(found[1], found[0])

    def test_on_programs_by_hand(self):
        machine = Machine(1, 2)
        words = set()
        for program in PATHS:
            for place in range(program.end + 1):
                for one, other in itertools.product(machine.registers, repeat=2):
                    for held in [None] + [held for held, _ in arrivals(program, place)]:
                        words.add(self.check_asked(program, machine, place, "x", one, other, held))
        self.assertEqual({"most", "rising", "free"}, words)

    def test_on_drawn_programs(self):
        chance = random.Random(141)
        words = []
        for axes, zeros in ((1, 1), (2, 2), (3, 4)):
            machine = Machine(axes, zeros)
            begin = Program.read("here x 0 ; zero 1 home x ; here x 2" if zeros > 1 else "here x 3")
            for program in random_programs(140 + axes, 30, depth=4, axes=axes, zeros=zeros, items=2):
                program = begin + program
                for _ in range(6):
                    place, held = chance.choice(list(nodes(program)))
                    one, other = chance.choice(machine.registers), chance.choice(machine.registers)
                    words.append(self.check_asked(
                        program, machine, place, chance.choice(machine.axes), one, other, chance.choice([None, held])
                    ))
        self.assertEqual({"most", "rising", "free"}, set(words))

    def test_by_hand(self):
        machine = Machine(1, 1)
        program = PATHS[1]
        self.assertEqual((None, None), between(program, machine, 3, "x", "p", "z0"))
        self.assertEqual(Rising, type(greatest(program, machine, 3, "x", "p", "z0")))
        self.assertEqual((-10, 5), between(PATHS[2], machine, 3, "x", "p", "z0"))
        self.assertEqual((-127, 889), between(PATHS[3], machine, 4, "x", "p", "z0"))
        self.assertEqual((None, None), between(PATHS[3], machine, 4, "x", "p", "o"))
        self.assertEqual(Free, type(greatest(PATHS[3], machine, 4, "x", "p", "o")))
        told = greatest(PATHS[3], machine, 4, "x", "s", "s")
        self.assertEqual((0, ()), (told.number, told.rows))
        self.assertTrue(is_run(PATHS[3], told.run) and told.run[-1] == 4)

    def test_a_great_told(self):
        told = between(PATHS[5], Machine(1, 2), 5, "x", "z1", "z0")
        self.assertEqual(2, len(told))
        self.assertEqual((10 ** 13 - 10, None), between(PATHS[5], Machine(1, 2), 5, "x", "z0", "o"))
        told = greatest(PATHS[5], Machine(1, 2), 5, "x", "z0", "o")
        self.assertEqual(Rising, type(told))

    def test_a_number_at_a_node_is_both(self):
        machine = Machine(1, 2)
        for program in PATHS + random_programs(142, 20, depth=3):
            table = differences(program, machine)
            for place, words in table:
                for one, other in itertools.product(machine.registers, repeat=2):
                    low, high = between(program, machine, place, "x", one, other, words)
                    number = table(place, words, "x", one, other)
                    self.assertEqual(number is not None, low is not None and low == high)
                    if number is not None:
                        self.assertEqual((number, number), (low, high))

    def test_rings_that_take_away(self):
        """The ring takes away more the fewer skips are gone through: the greatest difference is 0, with all of them."""
        machine, end = Machine(1, 1), BACK_TO_ZERO.end
        told = greatest(BACK_TO_ZERO, machine, end, "x", "z0", "p")
        self.assertEqual(0, told.number)
        self.assertTrue(shows_greatest(BACK_TO_ZERO, machine, end, "x", "z0", "p", told))
        self.assertEqual(Rising, type(least(BACK_TO_ZERO, machine, end, "x", "z0", "p")))
        self.assertEqual((None, 0), between(BACK_TO_ZERO, machine, end, "x", "z0", "p"))

    def test_more_than_two_thousand_rows(self):
        machine = Machine(1, 4)
        begin = "home x ; here x 0 ; zero 1 here x 0 ; zero 2 here x 0 ; zero 3 here x 0"
        words = [Skip(Program.read(text)[0]) for text in (
            "far", "on", "fine", "coarse", "zero 0", "zero 1", "zero 2", "zero 3", "cut", "rapid", "x 0", "here x 0",
        )]
        program = Program(*Program.read(begin), Round(*words))
        self.assertGreater(len(list(nodes(program))), 300)
        many = {"what": "rows", "most": 2000}
        for work in (greatest, least, between):
            self.check_error(TooMany, many, work, program, machine, program.end, "x", "z0", "z1")
            self.check_error(NoRegister, {"name": "q"}, work, program, machine, program.end, "x", "q", "z1")
        self.assertEqual(0, greatest(program, machine, program.end, "x", "z1", "z1").number)
        self.assertEqual(Free, type(greatest(program, machine, program.end, "x", "s", "z1")))
        rising = Program(*program.members, Round(Program.read("zero 1 lay x 1")[0]))
        self.assertEqual(Rising, type(greatest(rising, machine, rising.end, "x", "z1", "z0")))
        self.check_error(TooMany, many, least, rising, machine, rising.end, "x", "z1", "z0")

    def test_many_steps_six_deep(self):
        text = "x 1 ; skip ( here x 0 ; round ( on x -2 ; skip ( zero 1 lay x 1 ; round ( coarse ; far x 3 ) ) ) )"
        program = Program.read(f"here x 0 ; round ( round ( {text} ) ; skip ( {text} ) ; {text} ) ; {text} ; {text} ; zero 0")
        self.assertEqual(6, max(depth_of(item) for item in program.members))
        machine = Machine(1, 2)
        for one, other in itertools.product(machine.registers, repeat=2):
            told = greatest(program, machine, program.end, "x", one, other)
            self.assertTrue(shows_greatest(program, machine, program.end, "x", one, other, told))


class PapersTest(Checks, unittest.TestCase):
    def test_most(self):
        told = Most(rows=[[1]], run=[0], number=5)
        self.assertEqual((5, (0,), ((1,),)), (told.number, told.run, told.rows))
        self.assertTrue(told == Paper("most", 5, (0,), ((1,),)) and bool(told))
        self.assertFalse(isinstance(told, Denial))

    def test_rising_and_free(self):
        told = Rising(on=[3], run=[1], ring=[2])
        self.assertEqual(((1,), (2,), (3,)), (told.run, told.ring, told.on))
        self.assertTrue(isinstance(told, Denial) and not told and told == Paper("rising", [1], [2], [3]))
        free = Free(run=[1])
        self.assertTrue(isinstance(free, Denial) and not free and free == Denial("free", (1,)))
        self.assertEqual((1,), free.run)


class LookHeightsTest(Checks, unittest.TestCase):
    def setUp(self):
        self.machine = Machine(1, 2)

    def cases(self):
        for program in PATHS:
            for words in (None, arrivals(program, program.end)[0][0]):
                for one, other in (("p", "z0"), ("z1", "z0"), ("z0", "p"), ("s", "s"), ("z0", "o")):
                    yield (program, self.machine, program.end, "x", one, other), words

    def test_bent_papers(self):
        chance = random.Random(143)
        taken = refused = 0
        for args, words in self.cases():
            told = greatest(*args, words)
            values = [value for value in bends(told.parts) if len(value) == len(told.parts)]
            for value in chance.sample(values, min(60, len(values))):
                paper = type(told)(*value)
                shown = shows_greatest(*args, paper, words)
                self.assertIs(holds(heights_hold, *args, words, paper), shown, paper.parts)
                taken, refused = taken + shown, refused + (not shown)
        self.assertTrue(taken > 10 and refused > 500, (taken, refused))

    def test_numbers_and_rows_that_are_otherwise(self):
        for args, words in self.cases():
            told = greatest(*args, words)
            if not isinstance(told, Most):
                continue
            for number in (told.number + 1, told.number - 1, None, bool(told.number)):
                self.assertFalse(shows_greatest(*args, Most(number, told.run, told.rows), words))
            for at, row in enumerate(told.rows):
                less = row[:4] + (row[4] - 1,)
                rows = [
                    told.rows[:at] + told.rows[at + 1:], told.rows + (row,), told.rows[:at] + (less,) + told.rows[at + 1:],
                ]
                for value in rows:
                    self.assertFalse(shows_greatest(*args, Most(told.number, told.run, value), words))
            self.assertTrue(shows_greatest(*args, Most(told.number, told.run, told.rows[::-1]), words))

    def test_more_rows_than_need_be(self):
        program, machine = PATHS[2], self.machine
        told = greatest(program, machine, 2, "x", "p", "z0")
        others = greatest(program, machine, 2, "x", "z0", "p")
        args = (program, machine, 2, "x", "p", "z0")
        self.assertTrue(shows_greatest(*args, Most(told.number, told.run, told.rows + others.rows)))
        higher = [row[:4] + (row[4] + 1000,) for row in others.rows]
        self.assertTrue(shows_greatest(*args, Most(told.number, told.run, list(told.rows) + higher)))
        lower = [row[:4] + (row[4] - 1,) for row in others.rows]
        self.assertFalse(shows_greatest(*args, Most(told.number, told.run, list(told.rows) + lower)))
        begin = (0, str(FIRST_NODE), "p", "z0", 10 ** 9)
        self.assertFalse(shows_greatest(*args, Most(told.number, told.run, told.rows + (begin,))))
        nowhere = (1, "on coarse zero 1 cut", "p", "z0", 10 ** 9)
        self.assertFalse(shows_greatest(*args, Most(told.number, told.run, told.rows + (nowhere,))))
        same = (1, str(FIRST_NODE), "p", "p", 0)
        self.assertFalse(shows_greatest(*args, Most(told.number, told.run, told.rows + (same,))))
        args = (program, machine, 2, "x", "s", "s")
        self.assertTrue(shows_greatest(*args, Most(0, told.run, told.rows)))
        self.assertFalse(shows_greatest(*args, Most(0, told.run, lower)))
        self.assertFalse(shows_greatest(*args, Most(1, told.run, ())))

    def test_a_rising_that_is_shown_where_free_is_told(self):
        program = Program.read("skip ( here x 0 ) ; round ( on x 1 )")
        args = (program, Machine(1, 1), 2, "x", "p", "z0")
        self.assertEqual(Free, type(greatest(*args)))
        self.assertTrue(shows_greatest(*args, Rising((0, 1, 1), (1, 1), (1, 2))))
        self.assertFalse(shows_greatest(*args, Rising((0, 1), (1, 1), (1, 2))))
        self.assertFalse(shows_greatest(*args, Rising((1, 1), (1, 1), (1, 2))))
        self.assertFalse(shows_greatest(*args[:4], "z0", "p", Rising((0, 1, 1), (1, 1), (1, 2))))
        self.assertTrue(shows_greatest(*args, Rising((0, 1, 1), (1, 1, 1), (1, 1, 2))))
        self.assertFalse(shows_greatest(*args, Rising((0, 1, 1), (1,), (1, 2))))
        self.assertFalse(shows_greatest(*args, Rising((0, 1, 1), (1, 1), (1, 1))))

    def test_on_as_the_place_alone(self):
        program = Program.read("here x 0 ; round ( on x 1 )")
        args = (program, Machine(1, 1), 1, "x", "p", "z0")
        self.assertTrue(shows_greatest(*args, Rising((0, 1, 1), (1, 1), (1,))))
        on, far = Standing.read("on fine zero 0 rapid"), FIRST_NODE
        self.assertTrue(shows_greatest(*args, Rising((0, 1, 1), (1, 1), (1,)), on))
        self.assertFalse(shows_greatest(*args, Rising((0, 1, 1), (1, 1), (1,)), far))

    def test_words_count(self):
        program, machine = PATHS[3], self.machine
        for words, _ in arrivals(program, 4):
            told = greatest(program, machine, 4, "x", "p", "z0", words)
            self.assertTrue(shows_greatest(program, machine, 4, "x", "p", "z0", told, words))
            self.assertFalse(shows_greatest(program, machine, 4, "x", "p", "z0", told))

    def test_any_value(self):
        for args, words in itertools.islice(self.cases(), 0, None, 5):
            told = greatest(*args, words)
            for value in any_values():
                self.assertIs(False, shows_greatest(*args, value, words) and not isinstance(value, (Most, Free)))
                for at in range(len(told.parts)):
                    parts = list(told.parts)
                    parts[at] = value
                    if value != told.parts[at] or isinstance(value, bool):
                        paper = type(told)(*parts)
                        self.assertIs(holds(heights_hold, *args, words, paper), shows_greatest(*args, paper, words))
                if isinstance(told, Most):
                    self.assertIs(False, shows_greatest(*args, Most(told.number, told.run, told.rows + (value,)), words))
            self.assertFalse(shows_greatest(*args, Paper(told.word, *told.parts), words))

    def test_wrong_arguments(self):
        program, machine = PATHS[0], self.machine
        shows = lambda *args: shows_greatest(*args[:6], None, *args[6:])
        for work in (greatest, least, between, shows):
            for value in wrong_values(lambda value: isinstance(value, Program)):
                self.check_error(BadProgram, {"part": "program"}, work, value, None, 99, 9, 9, 9, 9)
            for value in wrong_values(lambda value: isinstance(value, Machine)):
                self.check_error(BadMachine, {"part": "machine"}, work, program, value, 99, 9, 9, 9, 9)
            self.check_error(BadMachine, {"part": "fit"}, work, Program.read("zero 3"), machine, 99, 9, 9, 9, 9)
            for value in wrong_values(lambda value: is_integer(value) and 0 <= value <= program.end):
                self.check_error(NoPlace, {"place": value}, work, program, machine, value, 9, 9, 9, 9)
            for value in wrong_values(lambda value: value is None) + [Standing.read("on fine zero 0 rapid")]:
                self.check_error(NoNode, {"place": 0, "words": value}, work, program, machine, 0, 9, 9, 9, value)
            for words in (None, FIRST_NODE):
                for value in wrong_values(lambda value: isinstance(value, str) and value == "x"):
                    self.check_error(NoAxis, {"axis": value}, work, program, machine, 0, value, 9, 9, words)
                for value in wrong_values(lambda value: isinstance(value, str) and value in machine.registers):
                    self.check_error(NoRegister, {"name": value}, work, program, machine, 0, "x", value, 9, words)
                    self.check_error(NoRegister, {"name": value}, work, program, machine, 0, "x", "p", value, words)


if __name__ == "__main__":
    unittest.main()
