import itertools
import random
import unittest

from kinds import Checks, any_values, is_integer, random_programs, wrong_values
from oracles import bends, difference_on, holds, table_holds, unfixed
from takenup.arrivals import arrivals, nodes
from takenup.errors import BadMachine, BadPaper, BadProgram, NoAxis, NoNode, NoPlace, NoRegister
from takenup.look_tables import shows_table, shows_unlike
from takenup.machines import Machine
from takenup.papers import Denial, Paper
from takenup.places import is_run, runs_of
from takenup.programs import Program
from takenup.standing import Standing
from takenup.stepping import run_words, words_behind
from takenup.tables import Table, differences, edges
from takenup.unlike import Unlike, unlike

ONE = Program.read("x 0 ; on ; round ( x 4 ; here x 0 ) ; far x 0")
ON = Standing.read("on fine zero 0 rapid")
FIRST_NODE = Standing.first().node_words


def first_runs(program, most=6, limit=600):
    return list(itertools.islice(runs_of(program, most), limit))


def is_register(machine):
    return lambda value: isinstance(value, str) and value in machine.registers


class DifferencesTest(Checks, unittest.TestCase):
    def setUp(self):
        self.machine = Machine(2, 2)
        self.programs = [Program.read("x 0 ; told 3 ( here x 2 y 1 ; lay x 1 ) ; skip ( home x )")]
        self.programs += random_programs(121, 50, depth=3, axes=2)

    def test_example(self):
        told = differences(ONE, Machine(1, 2)).tied(3, ON, "x")
        self.assertEqual(((("p", 0), ("z0", -20)), (("z1", 0),), (("o", 0),), (("s", 0),)), told)

    def test_numbers_on_the_first_runs(self):
        for program in self.programs:
            table = differences(program, self.machine)
            for run in first_runs(program, 5, 120):
                node = (run[-1], run_words(program, run).node_words)
                self.assertIn(node, table)
                for axis in self.machine.axes:
                    for tie in table.tied(*node, axis):
                        for name, number in tie:
                            found = difference_on(program, self.machine, run, axis, name, tie[0][0])
                            self.assertEqual(number, found)

    def test_registers_that_are_not_in_one_tie_are_unlike(self):
        for program in self.programs[:25]:
            table = differences(program, self.machine)
            for place, words in list(nodes(program))[:6]:
                for axis in self.machine.axes:
                    for one, other in itertools.product(self.machine.registers, repeat=2):
                        self.check_pair(program, table, place, words, axis, one, other)

    def check_pair(self, program, table, place, words, axis, one, other):
        told = unlike(program, self.machine, place, words, axis, one, other)
        number = table(place, words, axis, one, other)
        if number is not None:
            self.assertIs(None, told)
            return
        self.assertIs(Unlike, type(told))
        found = []
        for run in (told.one, told.other):
            self.assertTrue(is_run(program, run) and run[-1] == place)
            self.assertEqual(words, run_words(program, run).node_words)
            found.append(difference_on(program, self.machine, run, axis, one, other))
        if None in found:
            self.assertEqual([None, None, told.one], [*found, told.other])
        else:
            self.assertNotEqual(*found)
            for run in first_runs(program, 5, 100):
                if run[-1] == place and run_words(program, run).node_words == words:
                    self.assertIsNotNone(difference_on(program, self.machine, run, axis, one, other))
        args = (program, self.machine, place, words, axis, one, other)
        self.assertTrue(shows_unlike(*args, told))
        self.assertTrue(shows_unlike(*args, Unlike(list(told.one), list(told.other))))
        self.assertTrue(shows_unlike(*args, Unlike(told.other, told.one)))

    def test_order_and_form(self):
        for program in self.programs:
            table = differences(program, self.machine)
            keys = [(place, str(words), axis) for place, words in nodes(program) for axis in self.machine.axes]
            self.assertEqual(keys, [row[:3] for row in table.rows])
            names = list(self.machine.registers)
            for _, _, _, ties in table.rows:
                self.assertEqual(sorted(names), sorted(name for tie in ties for name, _ in tie))
                self.assertEqual(sorted(names.index(tie[0][0]) for tie in ties), [names.index(tie[0][0]) for tie in ties])
                for tie in ties:
                    self.assertEqual(sorted(names.index(name) for name, _ in tie), [names.index(name) for name, _ in tie])
                    self.assertEqual(0, tie[0][1])
            self.assertEqual(list(nodes(program)), list(table))
            self.assertEqual(len(list(nodes(program))), len(table))

    def test_edges(self):
        for program in self.programs:
            expected = [
                (place, words, after, words_behind(words, program[place]).node_words)
                for place, words in nodes(program) for after in program.after(place)
            ]
            self.assertEqual(expected, list(edges(program)))
        for value in wrong_values(lambda value: isinstance(value, Program)):
            self.check_error(BadProgram, {"part": "program"}, edges, value)

    def test_a_source_that_is_another_one_on_another_run(self):
        program = Program.read("skip ( home x ) ; here x 3 ; x 1")
        table = differences(program, Machine(1, 1))
        self.assertEqual(-15, table(2, FIRST_NODE, "x", "z0", "p"))
        self.assertIsNone(table(2, FIRST_NODE, "x", "z0", "o"))
        self.assertEqual(5, table(3, FIRST_NODE, "x", "p", "z0"))

    def test_great_tolds(self):
        program = Program.read("x 0 ; told 1000000000000 ( lay x 1 ; told 1000000000000 ( on x 2 ) ) ; far x 0")
        table = differences(program, Machine(1, 1))
        words = Standing.read("on fine zero 0 rapid")
        self.assertEqual(10 ** 25 - 5 * 10 ** 12, table(2, words, "x", "p", "z0"))

    def test_programs_of_forty_steps(self):
        text = " ; ".join([f"skip ( {'on' if at % 3 else 'far'} zero {at % 4} x {at} )" for at in range(18)])
        text = f"round ( round ( round ( {text} ; told 9 ( here x 1 y 2 w 3 ; lay x 1 ) ; coarse cut ) ; fine ) ; {text} )"
        program = Program.read(text)
        machine = Machine(3, 4)
        table = differences(program, machine)
        self.assertTrue(len(table) > 500 and shows_table(program, machine, table))

    def test_wrong_arguments(self):
        for value in wrong_values(lambda value: isinstance(value, Program)):
            self.check_error(BadProgram, {"part": "program"}, differences, value, None)
            self.check_error(BadProgram, {"part": "program"}, shows_table, value, None, None)
        for value in wrong_values(lambda value: isinstance(value, Machine)):
            self.check_error(BadMachine, {"part": "machine"}, differences, ONE, value)
            self.check_error(BadMachine, {"part": "machine"}, shows_table, ONE, value, None)
        for bad in (Program.read("skip ( y 1 )"), Program.read("told 2 ( zero 1 )")):
            self.check_error(BadMachine, {"part": "fit"}, differences, bad, Machine(1, 1))
            self.check_error(BadMachine, {"part": "fit"}, shows_table, bad, Machine(1, 1), None)


class TableTest(Checks, unittest.TestCase):
    def setUp(self):
        self.machine = Machine(2, 2)
        self.program = Program.read("x 0 y 1 ; on ; round ( x 4 ; here x 0 y 2 ) ; far x 0")
        self.table = differences(self.program, self.machine)

    def test_the_paper(self):
        rows = [[0, "far fine zero 0 rapid", "x", [[["p", 0], ["z0", 3]], [["o", 0]]]]]
        table = Table(rows)
        self.assertEqual(((0, "far fine zero 0 rapid", "x", ((("p", 0), ("z0", 3)), (("o", 0),))),), table.rows)
        self.assertEqual(("table", (table.rows,)), (table.word, table.parts))
        self.assertTrue(table == Table(rows=table.rows) and table == Paper("table", rows))
        self.assertFalse(isinstance(table, Denial))
        self.assertTrue(Table(()) and bool(Table(None)))
        rows[0][3][0][1][1] = 99
        rows.append(5)
        self.assertEqual(3, table(0, FIRST_NODE, "x", "z0", "p"))
        for name in ("__call__", "tied", "__contains__", "__len__", "__iter__", "is_part_of"):
            self.assertIn(name, vars(Table))

    def test_can_be_made_of_any_value(self):
        for value in any_values():
            self.assertEqual(Table(value), Table(value))
            self.assertIs(False, shows_table(self.program, self.machine, Table(value)))
            self.assertIs(False, shows_table(self.program, self.machine, Table([value])))
            self.assertIs(False, shows_table(self.program, self.machine, value))

    def test_a_table_that_was_made_by_hand(self):
        text, other_text = "far fine zero 0 rapid", "on coarse zero 3 cut"
        ties = ((("s", 7), ("p", 9)), (("z0", 0),))
        table = Table([(5, other_text, "w", ties), (2, text, "y", ()), [2, text, "w", ties], (5, other_text, "y", ties)])
        self.assertEqual([(5, Standing.read(other_text)), (2, Standing.read(text))], list(table))
        self.assertEqual(2, len(table))
        self.assertEqual([2, -2, 0, None], [
            table(5, Standing.read(other_text), "w", *pair) for pair in (("p", "s"), ("s", "p"), ("z0", "z0"), ("p", "z0"))
        ])
        self.assertEqual(ties, table.tied(2, Standing.read(text), "w"))
        self.check_error(NoAxis, {"axis": "x"}, table, 2, Standing.read(text), "x", "q", "q")
        self.check_error(NoRegister, {"name": "o"}, table, 5, Standing.read(other_text), "w", "o", "q")

    def test_what_it_tells(self):
        for place, words in self.table:
            for axis in self.machine.axes:
                ties = self.table.tied(place, words, axis)
                tied = {name: (at, number) for at, tie in enumerate(ties) for name, number in tie}
                for one, other in itertools.product(self.machine.registers, repeat=2):
                    number = tied[one][1] - tied[other][1] if tied[one][0] == tied[other][0] else None
                    self.assertEqual(number, self.table(place, words, axis, one, other))

    def test_membership(self):
        for node in self.table:
            self.assertTrue(node in self.table and list(node) in self.table)
        for node in ((True, FIRST_NODE), (0, ON), (0, Standing.first()), (0, Standing()), (0, "far"), (9, FIRST_NODE), (0,)):
            self.assertFalse(node in self.table)
        self.assertFalse((1, FIRST_NODE, 0) in self.table)
        for value in any_values():
            self.assertIs(False, value in self.table)
            self.assertIs(False, (value, FIRST_NODE) in self.table and not is_integer(value))
            self.assertIs(False, (0, value) in self.table)

    def test_errors_of_what_it_tells(self):
        table = self.table
        for value in wrong_values(lambda value: is_integer(value) and value in (0, 1)):
            self.check_error(NoNode, {"place": value, "words": FIRST_NODE}, table, value, FIRST_NODE, "q", "q", "q")
            self.check_error(NoNode, {"place": value, "words": FIRST_NODE}, table.tied, value, FIRST_NODE, "q")
        for value in any_values() + [ON]:
            self.check_error(NoNode, {"place": 0, "words": value}, table, 0, value, "q", "q", "q")
        for value in wrong_values(lambda value: isinstance(value, str) and value in ("x", "y")):
            self.check_error(NoAxis, {"axis": value}, table, 0, FIRST_NODE, value, "q", "q")
            self.check_error(NoAxis, {"axis": value}, table.tied, 0, FIRST_NODE, value)
        for value in wrong_values(is_register(self.machine)):
            self.check_error(NoRegister, {"name": value}, table, 0, FIRST_NODE, "x", value, "z9")
            self.check_error(NoRegister, {"name": value}, table, 0, FIRST_NODE, "x", "p", value)

    def test_is_part_of(self):
        table = self.table
        self.assertTrue(table.is_part_of(table) and table.is_part_of(Table(table.rows[::-1])))
        self.assertTrue(Table(()).is_part_of(table) and Table(()).is_part_of(Table(())))
        self.assertFalse(table.is_part_of(Table(())))
        nodes_told = len(self.machine.axes)
        fewer = Table(table.rows[nodes_told:])
        self.assertTrue(fewer.is_part_of(table))
        self.assertFalse(table.is_part_of(fewer))
        apart = Table([row[:3] + (tuple(((name, 0),) for name in self.machine.registers),) for row in table.rows])
        self.assertTrue(apart.is_part_of(table))
        self.assertFalse(table.is_part_of(apart))
        one = Table([row for row in table.rows if row[2] == "x"])
        self.assertTrue(one.is_part_of(table))
        self.assertFalse(table.is_part_of(one))
        shifted = Table([
            row[:3] + (tuple(tuple((name, number + 5) for name, number in tie) for tie in row[3]),) for row in table.rows
        ])
        self.assertTrue(shifted.is_part_of(table) and table.is_part_of(shifted))
        for at, row in enumerate(table.rows):
            for tie_at, tie in enumerate(row[3]):
                if len(tie) > 1:
                    bent = tie[:-1] + ((tie[-1][0], tie[-1][1] + 1),)
                    ties = row[3][:tie_at] + (bent,) + row[3][tie_at + 1:]
                    other = Table(table.rows[:at] + (row[:3] + (ties,),) + table.rows[at + 1:])
                    self.assertFalse(other.is_part_of(table) or table.is_part_of(other))
        for value in wrong_values(lambda value: isinstance(value, Table)):
            self.check_error(BadPaper, {"part": "other"}, table.is_part_of, value)


class LookTablesTest(Checks, unittest.TestCase):
    def test_tables_are_shown(self):
        for axes, zeros in ((1, 1), (2, 3), (3, 2)):
            machine = Machine(axes, zeros)
            for program in random_programs(130 + axes, 60, depth=4, axes=axes, zeros=zeros):
                table = differences(program, machine)
                self.assertIs(True, shows_table(program, machine, table))
                self.assertIs(True, shows_table(program, machine, Table(unfixed(table.rows)[::-1])))

    def test_bent_tables(self):
        chance = random.Random(133)
        machine = Machine(1, 2)
        taken = refused = 0
        for program in [ONE] + random_programs(134, 12, depth=3):
            rows = differences(program, machine).rows
            values = list(bends(rows))
            for value in chance.sample(values, min(150, len(values))):
                told = shows_table(program, machine, Table(value))
                self.assertIs(holds(table_holds, program, machine, Table(value).rows), told)
                taken, refused = taken + told, refused + (not told)
        self.assertTrue(taken > 5 and refused > 500, (taken, refused))

    def test_each_number_counts(self):
        machine = Machine(1, 2)
        rows = differences(ONE, machine).rows
        for at, row in enumerate(rows):
            self.assertFalse(shows_table(ONE, machine, Table(rows[:at] + rows[at + 1:])))
            self.assertFalse(shows_table(ONE, machine, Table(rows + (row,))))
            for tie_at, tie in enumerate(row[3]):
                for pair_at, (name, number) in enumerate(tie):
                    for bent in (number + 1, number - 1, None, bool(number), str(number)):
                        ties = [list(one) for one in row[3]]
                        ties[tie_at][pair_at] = (name, bent)
                        value = Table(rows[:at] + (row[:3] + (ties,),) + rows[at + 1:])
                        self.assertFalse(shows_table(ONE, machine, value))

    def test_fewer_differences_and_more_nodes(self):
        machine = Machine(1, 2)
        apart = tuple(((name, 0),) for name in machine.registers)
        rows = differences(ONE, machine).rows
        self.assertTrue(shows_table(ONE, machine, Table([row[:3] + (apart,) for row in rows])))
        more = Standing.read("on coarse zero 1 cut")
        extra = [(4, str(more), "x", apart), (5, "far coarse zero 1 cut", "x", apart)]
        self.assertTrue(shows_table(ONE, machine, Table(list(rows) + extra)))
        self.assertFalse(shows_table(ONE, machine, Table(list(rows) + extra[:1])))
        self.assertTrue(shows_table(ONE, machine, Table(list(rows) + extra[1:])))
        tied = ((("p", 0), ("z0", 3)), (("z1", 0),), (("o", 0),), (("s", 0),))
        self.assertTrue(shows_table(ONE, machine, Table(list(rows) + [(5, str(more), "x", tied)])))
        both = [(5, "far coarse zero 1 cut", "x", tied), (4, str(more), "x", apart)]
        self.assertFalse(shows_table(ONE, machine, Table(list(rows) + both)))
        self.assertFalse(shows_table(ONE, machine, Table(list(rows) + [(5, "far coarse zero 2 cut", "x", apart)])))
        self.assertFalse(shows_table(ONE, machine, Table(list(rows) + [(5, "far coarse zero 1", "x", apart)])))
        self.assertFalse(shows_table(ONE, machine, Table(list(rows) + [(6, str(more), "x", apart)])))
        self.assertFalse(shows_table(ONE, machine, Table(list(rows) + [(True, str(more), "x", apart)])))

    def test_a_paper_that_was_not_made_as_a_table(self):
        machine = Machine(1, 2)
        rows = differences(ONE, machine).rows
        self.assertFalse(shows_table(ONE, machine, Paper("table", rows)))
        self.assertFalse(shows_table(ONE, machine, rows))

    def test_looks_at_any_value_as_unlike(self):
        machine = Machine(1, 2)
        args = (ONE, machine, 3, ON, "x", "p", "z1")
        told = unlike(*args)
        self.assertTrue(shows_unlike(*args, told))
        for value in any_values() + [Paper("unlike", *told.parts), told.parts]:
            self.assertIs(False, shows_unlike(*args, value))
            self.assertIs(False, shows_unlike(*args, Unlike(value, told.one)))
            self.assertIs(False, shows_unlike(*args, Unlike(told.one, value)))
            self.assertIs(False, shows_unlike(*args, Unlike([0, value], told.one)))
        self.assertFalse(shows_unlike(ONE, machine, 3, ON, "x", "p", "z0", told))
        self.assertFalse(shows_unlike(ONE, machine, 3, ON, "x", "z1", "z1", told))
        self.assertFalse(shows_unlike(*args, Unlike((0, 1, 2), (0, 1, 2))))
        self.assertFalse(shows_unlike(*args, Unlike((1, 2, 3), (1, 2, 3))))
        self.assertTrue(shows_unlike(*args, Unlike((0, 1, 2, 3), (0, 1, 2, 3, 2, 3))))

    def test_unlike_differences(self):
        program, machine = Program.read("here x 0 ; round ( on x 1 )"), Machine(1, 1)
        on = Standing.read("on fine zero 0 rapid")
        told = unlike(program, machine, 2, on, "x", "p", "z0")
        self.assertNotEqual(told.one, told.other)
        args = (program, machine, 2, on, "x", "p", "z0")
        self.assertTrue(shows_unlike(*args, Unlike((0, 1, 2), (0, 1, 1, 2))))
        self.assertFalse(shows_unlike(*args, Unlike((0, 1, 2), (0, 1, 2))))
        for value in bends(told.parts):
            if len(value) == 2:
                self.assertIn(shows_unlike(*args, Unlike(*value)), (True, False))

    def test_errors_of_unlike(self):
        machine = Machine(1, 2)
        for work in (unlike, lambda *args: shows_unlike(*args, None)):
            for value in wrong_values(lambda value: isinstance(value, Program)):
                self.check_error(BadProgram, {"part": "program"}, work, value, None, 9, 9, 9, 9, 9)
            for value in wrong_values(lambda value: isinstance(value, Machine)):
                self.check_error(BadMachine, {"part": "machine"}, work, ONE, value, 9, 9, 9, 9, 9)
            self.check_error(BadMachine, {"part": "fit"}, work, Program.read("w 1"), machine, 9, 9, 9, 9, 9)
            for value in wrong_values(lambda value: is_integer(value) and 0 <= value <= ONE.end):
                self.check_error(NoPlace, {"place": value}, work, ONE, machine, value, 9, 9, 9, 9)
            for value in any_values() + [ON, FIRST_NODE | Standing(pace=0)]:
                self.check_error(NoNode, {"place": 0, "words": value}, work, ONE, machine, 0, value, 9, 9, 9)
            for value in wrong_values(lambda value: isinstance(value, str) and value == "x"):
                self.check_error(NoAxis, {"axis": value}, work, ONE, machine, 0, FIRST_NODE, value, 9, 9)
            for value in wrong_values(is_register(machine)):
                self.check_error(NoRegister, {"name": value}, work, ONE, machine, 0, FIRST_NODE, "x", value, 9)
                self.check_error(NoRegister, {"name": value}, work, ONE, machine, 0, FIRST_NODE, "x", "p", value)

    def test_the_paper_unlike(self):
        told = Unlike(other=[1], one=[0, [2]])
        self.assertEqual(((0, (2,)), (1,)), (told.one, told.other))
        self.assertTrue(told == Paper("unlike", (0, (2,)), (1,)) and bool(told))
        self.assertEqual(2, len(arrivals(Program.read("skip ( on )"), 1)))


if __name__ == "__main__":
    unittest.main()
