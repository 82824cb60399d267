import itertools
import random
import unittest

from kinds import Checks, any_values, is_integer, random_programs, wrong_values
from oracles import behind, bends, holds, need, need_integer, read_node, unfixed
from plain_play import FIRST, do_run
from side_by_side import symbols
from takenup.arrivals import nodes
from takenup.back import Back, NoWay, Since, last_back, since_last, way_back, ways_back
from takenup.cuts import Cuts, Endless, most_cuts
from takenup.errors import BadMachine, BadProgram, NoAxis, NoNode, NoPlace, NoRegister
from takenup.look_back import shows_back, shows_cuts, shows_no_way, shows_since
from takenup.look_tables import shows_table
from takenup.look_takeups import shows_refused, shows_taken
from takenup.machines import Machine
from takenup.papers import Denial, Paper
from takenup.places import is_run, passes, runs_of
from takenup.programs import Program
from takenup.standing import Standing
from takenup.stepping import step_shift
from takenup.tables import Table, differences
from takenup.takeups import take_up

PATH = Program.read("x 0 ; on ; round ( x 4 ; here x 0 ) ; far x 0")
MACHINE = Machine(1, 2)
ON = Standing.read("on fine zero 0 rapid")


def visit_of(run, other):
    return max((at for at, place in enumerate(run[:-1]) if place == other), default=None)


def symbols_along(program, machine, run):
    words, numbers = dict(FIRST), symbols(machine)
    do_run(words, numbers, program, run)
    node = Standing(**{name: words[name] for name in Standing.NODE_NAMES})
    return node, numbers


def entries_on(program, machine, run, other):
    """What each register is more than each zero at the last visit on a run, None for unlike sources.

    A run that stands at the place itself visits it now.
    """
    visit = len(run) - 1 if run[-1] == other else visit_of(run, other)
    if visit is None:
        return None
    node, numbers = symbols_along(program, machine, run)
    _, then = symbols_along(program, machine, run[:visit + 1])
    return {
        (run[-1], str(node), axis, one, f"z{zero}"): (
            numbers[axis][one].number - then[axis][f"z{zero}"].number
            if numbers[axis][one].source == then[axis][f"z{zero}"].source else None
        )
        for axis in machine.axes for one in machine.registers for zero in range(machine.zeros)
    }


def few_runs(program, most=7, limit=250):
    return list(itertools.islice(runs_of(program, most), limit))


def since_holds(program, machine, value):
    """The conditions of a Since, said once more."""
    need(type(value) is Since)
    need_integer(value.other, 0, program.end)
    need(shows_table(program, machine, value.table))
    need(type(value.rows) is tuple)
    told = {}
    for place, text, axis, entries in value.rows:
        read_node(program, machine, place, text)
        need(type(axis) is str and axis in machine.axes and (place, text, axis) not in told)
        need(type(entries) is tuple and len(entries) == len(machine.registers))
        told[place, text, axis] = table = {}
        for one, row in zip(machine.registers, entries):
            need(type(row) is tuple and len(row) == machine.zeros)
            for at, entry in enumerate(row):
                need(entry is None or type(entry) is int)
                table[one, f"z{at}"] = entry
    for place, text in {key[:2] for key in told}:
        for axis in machine.axes:
            need((place, text, axis) in told)
    for place, words in value.table:
        if place == value.other:
            for axis in machine.axes:
                for (one, zero), entry in told[place, str(words), axis].items():
                    need(entry in (None, value.table(place, words, axis, one, zero)))
    for (place, text, axis), table in told.items():
        if place < program.end:
            words = Standing.read(text)
            shift = step_shift(machine, words, program[place], axis)
            for after in program.after(place):
                if after != value.other:
                    for (one, zero), entry in told[after, str(behind(words, program[place])), axis].items():
                        if entry is not None:
                            need(table[shift[one].source, zero] + shift[one].number == entry)


def back_holds(program, machine, place, other, value):
    need(type(value) is Back and passes(program, place, other))
    need(shows_taken(program, machine, other, value.taken))
    need(type(value.then) is Since and value.then.other == other and shows_since(program, machine, value.then))
    need(shows_cuts(program, place, other, value.cuts))
    for at, _, _, entries in value.then.rows:
        if at == place:
            need(all(entries[1 + zero][zero] == 0 for zero in range(machine.zeros)))


def no_way_holds(program, machine, place, other, value):
    need(type(value) is NoWay)
    if value.reason == "unserved":
        need(value.run is None and shows_refused(program, machine, other, value.paper))
        return
    need(value.reason in ("missed", "zero") and is_run(program, value.run) and value.run[-1] == place)
    visit = visit_of(value.run, other)
    if value.reason == "missed":
        need(visit is None and value.paper is None)
        return
    axis, zero = value.paper
    need(visit is not None and type(value.paper) is tuple and axis in machine.axes)
    need(zero in [f"z{at}" for at in range(machine.zeros)])
    _, now = symbols_along(program, machine, value.run)
    _, then = symbols_along(program, machine, value.run[:visit + 1])
    need(not now[axis][zero] == then[axis][zero])


class SinceTest(Checks, unittest.TestCase):
    def test_against_all_runs_of_few_steps(self):
        numbers = nothings = 0
        for axes, zeros, many in ((1, 2, 40), (2, 2, 20), (1, 4, 15)):
            machine = Machine(axes, zeros)
            for program in random_programs(601 + zeros, many, depth=3, axes=axes, zeros=zeros):
                runs = few_runs(program)
                for other in range(program.end + 1):
                    told = since_last(program, machine, other)
                    seen = {}
                    for run in runs:
                        for key, entry in (entries_on(program, machine, run, other) or {}).items():
                            seen.setdefault(key, set()).add(entry)
                    for (place, text, axis, one, zero), entries in seen.items():
                        entry = told(place, Standing.read(text), axis, one, zero)
                        if len(entries) > 1 or None in entries:
                            self.assertIsNone(entry)
                            nothings += 1
                        elif entry is not None:
                            self.assertEqual(entries, {entry})
                            numbers += 1
        self.assertTrue(numbers > 4000 and nothings > 5000, (numbers, nothings))

    def test_numbers_are_told_where_they_can_be(self):
        """In programs without rounds all runs are short, so that an entry is just what they tell."""
        for program in random_programs(606, 250, depth=2, zeros=2, items=4):
            if "round" in str(program) or program.end > 7:
                continue
            runs = few_runs(program, 8, 2000)
            for other in range(program.end + 1):
                told = since_last(program, MACHINE, other)
                seen = {}
                for run in runs:
                    for key, entry in (entries_on(program, MACHINE, run, other) or {}).items():
                        seen.setdefault(key, set()).add(entry)
                for (place, text, axis, one, zero), entries in seen.items():
                    expected = list(entries)[0] if len(entries) == 1 else None
                    self.assertEqual(expected, told(place, Standing.read(text), axis, one, zero))
                self.assertEqual({(key[0], key[1]) for key in seen} | {
                    (at, str(words)) for at, words in nodes(program) if at == other
                }, {(place, str(words)) for place, words in told})

    def test_rows(self):
        for axes, zeros in ((1, 1), (3, 2)):
            machine = Machine(axes, zeros)
            for program in random_programs(607 + axes, 25, depth=3, axes=axes, zeros=zeros):
                for other in range(program.end + 1):
                    told = since_last(program, machine, other)
                    self.assertEqual((Since, other, differences(program, machine)), (type(told), told.other, told.table))
                    order = list(nodes(program))
                    found = [(row[0], Standing.read(row[1])) for row in told.rows[::axes]]
                    self.assertEqual([node for node in order if node in found], found)
                    self.assertEqual(list(machine.axes) * len(found), [row[2] for row in told.rows])
                    self.assertTrue(all(node in found for node in order if node[0] == other))
                    self.assertEqual((len(found), found), (len(told), list(told)))
                    self.assertTrue(all(node in told and list(node) in told for node in found))
                    for row in told.rows:
                        if row[0] == other:
                            for at, one in enumerate(machine.registers):
                                for zero in range(zeros):
                                    self.assertEqual(told.table(
                                        other, Standing.read(row[1]), row[2], one, f"z{zero}"), row[3][at][zero])
                    self.assertIs(True, shows_since(program, machine, told))

    def test_by_hand(self):
        told = since_last(PATH, MACHINE, 2)
        self.assertEqual((
            (2, str(ON), "x", ((0, None), (0, None), (None, 0), (None, None), (None, None))),
            (3, str(ON), "x", ((20, None), (0, None), (None, 0), (None, None), (None, None))),
            (4, str(ON), "x", ((20, None), (20, None), (None, 0), (None, None), (None, None))),
            (5, "far fine zero 0 rapid", "x", ((20, None), (20, None), (None, 0), (None, None), (None, None))),
        ), told.rows)
        self.assertEqual([20, None, 0], [told(4, ON, "x", *names) for names in (("z0", "z0"), ("z0", "z1"), ("z1", "z1"))])

    def test_great_tolds(self):
        program = Program.read("x 0 ; told 1000000000000 ( lay x 1 ; on x -1 ) ; told 3 ( lay x 1 )")
        told = since_last(program, Machine(1, 1), 1)
        words = Standing.read("on fine zero 0 rapid")
        self.assertEqual(5 * 10 ** 12, told(2, words, "x", "z0", "z0"))
        self.assertEqual(-5 * 10 ** 12, told(2, words, "x", "p", "z0"))

    def test_wrong_calls(self):
        told = since_last(PATH, MACHINE, 2)
        for value in any_values():
            if not is_integer(value) or not 2 <= value <= 4:
                self.check_error(NoNode, {"place": value, "words": ON}, told, value, ON, 9, 9, 9)
                self.assertNotIn((value, ON), told)
            self.check_error(NoNode, {"place": 3, "words": value}, told, 3, value, 9, 9, 9)
            self.assertNotIn((3, value), told)
            self.assertNotIn(value, told)
            if value != "x":
                self.check_error(NoAxis, {"axis": value}, told, 3, ON, value, 9, 9)
            if value not in ("p", "z0", "z1", "o", "s"):
                self.check_error(NoRegister, {"name": value}, told, 3, ON, "x", value, 9)
            if value not in ("z0", "z1"):
                self.check_error(NoRegister, {"name": value}, told, 3, ON, "x", "p", value)
        self.check_error(NoRegister, {"name": "z2"}, told, 3, ON, "x", "z2", "z2")
        self.check_error(NoRegister, {"name": "p"}, told, 3, ON, "x", "p", "p")
        self.check_error(NoNode, {"place": 1, "words": ON}, told, 1, ON, "x", "p", "z0")
        self.assertNotIn((3, ON, 0), told)
        for name in ("__init__", "__call__", "__contains__", "__len__", "__iter__"):
            self.assertIn(name, vars(Since))

    def test_look_at_bent_papers(self):
        chance = random.Random(608)
        taken = refused = 0
        for program in [PATH] + random_programs(609, 25, depth=3):
            other = chance.randint(0, program.end)
            told = since_last(program, MACHINE, other)
            self.assertTrue(shows_since(program, MACHINE, Since(other, Table(unfixed(told.table.rows)), unfixed(told.rows)[::-1])))
            values = list(bends(told.rows))
            papers = [Since(other, told.table, rows) for rows in chance.sample(values, min(60, len(values)))]
            papers += [Since(at, told.table, told.rows) for at in range(-1, program.end + 2)]
            papers += [Since(other, Table(rows), told.rows) for rows in chance.sample(list(bends(told.table.rows)), 6)]
            for value in papers:
                shown = shows_since(program, MACHINE, value)
                self.assertIs(holds(since_holds, program, MACHINE, value), shown)
                taken, refused = taken + shown, refused + (not shown)
        self.assertTrue(taken > 40 and refused > 500, (taken, refused))

    def test_look_at_fewer_numbers_and_more_nodes(self):
        told = since_last(PATH, MACHINE, 2)
        nothing = ((None, None),) * 5
        self.assertTrue(shows_since(PATH, MACHINE, Since(2, told.table, [row[:3] + (nothing,) for row in told.rows])))
        more = "on coarse zero 1 cut"
        strange = ((1, 2), (3, 4), (5, 6), (None, 7), (8, 9))
        end = (5, "far coarse zero 1 cut", "x")
        for extra, shown in (
            ([(5, more, "x", strange)], True), ([(4, more, "x", nothing)], False), ([(4, more, "x", nothing), (*end, nothing)], True),
            ([(4, more, "x", nothing), (*end, strange)], False), ([(2, more, "x", strange)], False), ([(6, more, "x", nothing)], False),
            ([(5, more, "y", nothing)], False), ([(5, "on", "x", nothing)], False), ([(5, more + " ", "x", nothing)], False),
            ([(True, more, "x", nothing)], False), ([(5, "on coarse zero 2 cut", "x", nothing)], False),
            ([(5, more, "x", strange), (5, more, "x", strange)], False), ([(5, more, "x", nothing[:4])], False),
        ):
            value = Since(2, told.table, list(told.rows) + extra)
            self.assertIs(shown, shows_since(PATH, MACHINE, value), extra)
            self.assertIs(shown, holds(since_holds, PATH, MACHINE, value), extra)

    def test_look_at_any_value(self):
        told = since_last(PATH, MACHINE, 2)
        for value in any_values() + [Paper("since", *told.parts), told.parts]:
            self.assertIs(False, shows_since(PATH, MACHINE, value))
            for at in range(3):
                parts = told.parts[:at] + (value,) + told.parts[at + 1:]
                self.assertIs(type(value) is int and at == 0 and value == 2, shows_since(PATH, MACHINE, Since(*parts)))
            for at in range(4):
                row = told.rows[1][:at] + (value,) + told.rows[1][at + 1:]
                paper = Since(2, told.table, told.rows[:1] + (row,) + told.rows[2:])
                self.assertIs(holds(since_holds, PATH, MACHINE, paper), shows_since(PATH, MACHINE, paper))


class WaysTest(Checks, unittest.TestCase):
    def check_way(self, told, program, machine, place, other, runs):
        self.assertIs(bool(told), shows_back(program, machine, place, other, told))
        self.assertIs(not told, shows_no_way(program, machine, place, other, told))
        work = back_holds if told else no_way_holds
        self.assertTrue(holds(work, program, machine, place, other, told))
        missed = [run for run in runs if run[-1] == place and visit_of(run, other) is None]
        if missed:
            self.assertEqual((NoWay, "missed", missed[0], None), (type(told), *told.parts))
        if missed or not told and told.reason == "missed":
            return
        changed = [
            (axis, f"z{zero}") for axis in machine.axes for zero in range(machine.zeros)
            if any(self.is_changed(program, machine, run, other, axis, zero) for run in runs if run[-1] == place)
        ]
        if told or told.reason == "unserved":
            self.assertEqual([], changed)
            taken = take_up(program, machine, other)
            self.assertEqual((bool(told), taken), (bool(taken), told.taken if told else told.paper))
            if told:
                self.assertEqual((since_last(program, machine, other), most_cuts(program, place, other)), (told.then, told.cuts))
            else:
                self.assertIsNone(told.run)
        else:
            self.assertEqual("zero", told.reason)
            order = [(axis, f"z{zero}") for axis in machine.axes for zero in range(machine.zeros)]
            self.assertTrue(not changed or order.index(told.paper) <= order.index(changed[0]))
            self.assertTrue(all(one not in changed for one in order[:order.index(told.paper)]))

    def is_changed(self, program, machine, run, other, axis, zero):
        visit = visit_of(run, other)
        _, now = symbols_along(program, machine, run)
        _, then = symbols_along(program, machine, run[:visit + 1])
        return not now[axis][f"z{zero}"] == then[axis][f"z{zero}"]

    def test_drawn_programs(self):
        found = []
        for axes, zeros, many in ((1, 1, 40), (2, 2, 25), (1, 3, 20)):
            machine = Machine(axes, zeros)
            for program in random_programs(611 + 2 * axes + zeros, many, depth=3, axes=axes, zeros=zeros):
                runs = few_runs(program, 6, 150)
                for place, other in itertools.permutations(range(program.end + 1), 2):
                    told = way_back(program, machine, place, other)
                    found.append(told.word if told else told.reason)
                    self.check_way(told, program, machine, place, other, [run for run in runs if run[-1] == place])
        for what in ("back", "missed", "zero", "unserved"):
            self.assertGreater(found.count(what), 30, found)

    def test_ways_back_and_last_back(self):
        many = []
        for program in random_programs(615, 60, depth=3, axes=2):
            machine = Machine(2, 2)
            for place in range(program.end + 1):
                expected = []
                for other in range(program.end + 1):
                    told = None if other == place else way_back(program, machine, place, other)
                    if told:
                        expected.append((other, told))
                self.assertEqual(expected, list(ways_back(program, machine, place)))
                many.append(len(expected))
                best = last_back(program, machine, place)
                key = min(((
                    (1, 0) if isinstance(told.cuts, Endless) else (0, told.cuts.number), -other
                ) for other, told in expected), default=None)
                self.assertEqual(key and -key[1], best and best[0])
                self.assertTrue(best is None or best in expected)
        self.assertTrue(many.count(0) > 20 and max(many) > 2, many)

    def test_fewest_cuts_first(self):
        program = Program.read("x 0 ; cut x 1 ; rapid x 2 ; x 3 ; cut x 4 ; x 5 ; round ( x 5 ) ; rapid x 7 ; x 8")
        machine = Machine(1, 1)
        for place, cuts in (
            (9, {0: "endless", 5: "endless", 6: 1, 7: 0, 8: 0}), (4, {0: 1, 1: 1, 2: 0, 3: 0}), (5, {4: 1, 3: 1, 0: 2}), (1, {0: 0}),
        ):
            told = dict(ways_back(program, machine, place))
            for other, number in cuts.items():
                paper = told[other].cuts
                self.assertEqual(number, paper.number if isinstance(paper, Cuts) else paper.word)
        self.assertEqual([8, 3, 4, 0], [last_back(program, machine, place)[0] for place in (9, 4, 5, 1)])
        self.assertIsNone(last_back(program, machine, 0))
        endless = Program.read("x 0 ; cut x 1 ; round ( x 1 )")
        self.assertEqual([0, 1, 2], [other for other, _ in ways_back(endless, machine, 3)])
        self.assertEqual(2, last_back(endless, machine, 3)[0])
        two = Program.read("x 0 ; cut ; x 1 ; round ( x 2 ; here x 0 )")
        self.assertEqual([], list(ways_back(two, machine, 5)))

    def test_reasons_by_hand(self):
        machine = Machine(1, 1)
        for text, place, other, reason, run, paper in (
            ("x 0 ; skip ( x 1 ) ; x 2", 3, 1, "missed", (0, 2, 3), None), ("x 0 ; x 1", 0, 1, "missed", (0,), None),
            ("x 0 ; here x 1 ; x 1", 2, 0, "zero", (0, 1, 2), ("x", "z0")), ("x 1 ; here x 0 ; x 1", 2, 1, "zero", (0, 1, 2), ("x", "z0")),
            ("x 0 ; lay x 1 ; lay x -1 ; x 1", 3, 2, "zero", (0, 1, 2, 3), ("x", "z0")),
            ("x 1 ; here x 1 ; skip ( lay x 1 ) ; x 2", 3, 1, "zero", (0, 1, 2, 3), ("x", "z0")),
            ("x 1 ; skip ( on x 1 ; far ) ; here x 1 ; x 2", 4, 3, "zero", (0, 1, 2, 3, 4), ("x", "z0")),
            ("x 2 ; skip ( on x -1 ; far ) ; here x 2 ; x 2", 4, 3, "zero", (0, 1, 2, 3, 4), ("x", "z0")),
            ("x 1 ; here x 1 ; on x 3 ; far here x 3 ; skip ( lay x 1 ) ; x 2", 5, 1, "zero", None, ("x", "z0")),
        ):
            told = way_back(Program.read(text), machine, place, other)
            self.assertEqual((reason, run or told.run, paper), told.parts, text)
            self.assertTrue(holds(no_way_holds, Program.read(text), machine, place, other, told), text)
        program = Program.read("x 0 ; lay x 1 ; lay x -1 ; x 1")
        self.assertEqual("back", way_back(program, machine, 3, 1).word)
        self.assertEqual("back", way_back(program, machine, 3, 0).word)
        refused = Program.read("skip ( cut ) ; x 1 ; rapid")
        told = way_back(refused, machine, 2, 1)
        self.assertEqual(("unserved", None, take_up(refused, machine, 1)), told.parts)
        moved = way_back(Program.read("x 0 ; round ( x 1 ; here x 0 ) ; x 1"), machine, 3, 0)
        self.assertEqual(("zero", ("x", "z0")), (moved.reason, moved.paper))
        same = Program.read("x 0 ; here x 0 ; round ( x 1 ; x 0 ; here x 0 ) ; x 1")
        self.assertEqual("back", way_back(same, machine, 5, 2).word)

    def test_the_first_zero_that_is_changed(self):
        program = Program.read("x 0 y 0 ; zero 1 lay y 1 ; zero 2 lay x 1 ; lay y 1 ; x 1")
        told = way_back(program, Machine(2, 3), 5, 0)
        self.assertEqual(("zero", ("x", "z2")), (told.reason, told.paper))
        told = way_back(program, Machine(2, 3), 2, 0)
        self.assertEqual(("zero", ("y", "z1")), (told.reason, told.paper))

    def test_many_steps(self):
        text = "x 1 ; skip ( y 1 ; round ( on y -2 ; skip ( zero 1 w 1 ; round ( coarse ; far x 3 ) ) ) )"
        program = Program.read(f"far x 0 y 0 w 0 ; round ( round ( {text} ) ; {text} ) ; far fine zero 0 x 1 ; {text} ; home x y w ; x 1")
        machine = Machine(3, 4)
        many = 0
        for place in range(0, program.end + 1, 6):
            told = list(ways_back(program, machine, place))
            many += len(told)
            for other, way in told[-2:]:
                self.assertTrue(shows_back(program, machine, place, other, way))
        self.assertGreater(many, 2)

    def test_papers(self):
        told = Back(cuts=1, then=[2], taken=3)
        self.assertEqual((3, (2,), 1), (told.taken, told.then, told.cuts))
        self.assertTrue(told == Paper("back", 3, [2], 1) and bool(told) and not isinstance(told, Denial))
        told = NoWay(paper=1, run=[2], reason=3)
        self.assertEqual((3, (2,), 1), (told.reason, told.run, told.paper))
        self.assertTrue(told == Paper("noway", 3, [2], 1) and not told and isinstance(told, Denial))
        told = Since(rows=[1], table=2, other=3)
        self.assertEqual((3, 2, (1,)), (told.other, told.table, told.rows))
        self.assertTrue(told == Paper("since", 3, 2, (1,)) and bool(told) and not isinstance(told, Denial))

    def test_wrong_arguments(self):
        for work, rest in (
            (since_last, (99,)), (way_back, (99, 99)), (ways_back, (99,)), (last_back, (99,)), (shows_back, (99, 99, 9)),
            (shows_no_way, (99, 99, 9)), (shows_since, (9,)),
        ):
            for value in wrong_values(lambda value: isinstance(value, Program)):
                self.check_error(BadProgram, {"part": "program"}, work, value, 9, *rest)
            for value in wrong_values(lambda value: isinstance(value, Machine)):
                self.check_error(BadMachine, {"part": "machine"}, work, PATH, value, *rest)
            self.check_error(BadMachine, {"part": "fit"}, work, Program.read("y 1"), MACHINE, *rest)
            if work != shows_since:
                for value in wrong_values(lambda value: is_integer(value) and 0 <= value <= PATH.end):
                    self.check_error(NoPlace, {"place": value}, work, PATH, MACHINE, value, *rest[1:])
        for work, rest in ((way_back, ()), (shows_back, (9,)), (shows_no_way, (9,))):
            for value in wrong_values(lambda value: is_integer(value) and 0 <= value <= PATH.end):
                self.check_error(NoPlace, {"place": value}, work, PATH, MACHINE, 2, value, *rest)
            self.check_error(NoPlace, {"place": 2}, work, PATH, MACHINE, 2, 2, *rest)


class LookTest(Checks, unittest.TestCase):
    def test_each_condition_of_a_way_back(self):
        """Papers that are right but for one thing."""
        machine = Machine(1, 3)
        for text, place, other, shown in (
            ("x 0 ; x 1 ; x 2", 3, 1, True), ("x 0 ; skip ( x 1 ) ; x 2", 3, 1, False), ("x 0 ; x 1 ; zero 0 lay x 1 ; x 2", 4, 1, False),
            ("x 0 ; x 1 ; zero 1 lay x 1 ; zero 0 x 2", 4, 1, False), ("x 0 ; x 1 ; zero 2 lay x 1 ; zero 0 x 2", 4, 1, False),
            ("x 0 ; zero 2 lay x 1 ; zero 0 x 2 ; x 3", 4, 2, True),
        ):
            program = Program.read(text)
            value = Back(take_up(program, machine, other), since_last(program, machine, other), most_cuts(program, place, other))
            self.assertTrue(value.taken and value.cuts)
            self.assertIs(shown, shows_back(program, machine, place, other, value), text)
            self.assertIs(shown, holds(back_holds, program, machine, place, other, value), text)
            self.assertIs(shown, bool(way_back(program, machine, place, other)))

    def test_others_that_are_no_places(self):
        table = differences(PATH, MACHINE)
        for other in (PATH.end + 1, -1, True, None, "2", 2.0):
            self.assertFalse(shows_since(PATH, MACHINE, Since(other, table, ())))
            self.assertFalse(shows_since(PATH, MACHINE, Since(other, table, since_last(PATH, MACHINE, 2).rows)))
        self.assertFalse(shows_since(PATH, MACHINE, Since(2, table, ())))

    def test_bent_ways(self):
        chance = random.Random(621)
        taken = refused = 0
        for program in random_programs(622, 30, depth=3):
            pairs = list(itertools.permutations(range(program.end + 1), 2))
            for place, other in chance.sample(pairs, min(5, len(pairs))):
                told = way_back(program, MACHINE, place, other)
                values = [told]
                if told:
                    values += [Back(*told.parts[:at], value, *told.parts[at + 1:]) for at in range(3) for value in (
                        None, 0, *told.parts, since_last(program, MACHINE, place), take_up(program, MACHINE, place),
                        most_cuts(program, place, chance.choice([at for at in range(program.end + 1) if at != place])),
                    )]
                else:
                    values += [NoWay(*parts) for parts in bends(told.parts) if len(parts) == 3][:30]
                    values += [NoWay(reason, told.run, paper) for reason in ("missed", "zero", "unserved", "zer", None) for paper in (
                        told.paper, None, ("x", "z0"), ("x", "z1"), ("x", "z2"), ("y", "z0"), ("x", "p"), ("x", "o"), ["x", "z0"],
                        ("x", "z0", 0), "xz",
                    )]
                for value in values:
                    for look, work in ((shows_back, back_holds), (shows_no_way, no_way_holds)):
                        shown = look(program, MACHINE, place, other, value)
                        self.assertIs(holds(work, program, MACHINE, place, other, value), shown)
                        taken, refused = taken + shown, refused + (not shown)
                for at, another in chance.sample(pairs, min(8, len(pairs))):
                    self.assertIs(holds(back_holds, program, MACHINE, at, another, told), shows_back(
                        program, MACHINE, at, another, told))
                    self.assertIs(holds(no_way_holds, program, MACHINE, at, another, told), shows_no_way(
                        program, MACHINE, at, another, told))
        self.assertTrue(taken > 100 and refused > 1000, (taken, refused))

    def test_any_value(self):
        program, machine = Program.read("x 0 ; on ; x 4 ; far x 0"), Machine(1, 1)
        back, missed = way_back(program, machine, 3, 0), way_back(program, machine, 0, 3)
        moved = Program.read("x 0 ; here x 1 ; x 1")
        zero = way_back(moved, machine, 2, 0)
        cut = Program.read("skip ( cut ) ; x 1 ; rapid")
        refused = way_back(cut, machine, 2, 1)
        self.assertTrue(shows_back(program, machine, 3, 0, back) and shows_no_way(program, machine, 0, 3, missed))
        self.assertTrue(shows_no_way(moved, machine, 2, 0, zero) and shows_no_way(cut, machine, 2, 1, refused))
        for value in any_values() + [Paper("back", *back.parts), back.parts, Paper("noway", *missed.parts)]:
            self.assertIs(False, shows_back(program, machine, 3, 0, value))
            self.assertIs(False, shows_no_way(program, machine, 0, 3, value))
            for at in range(3):
                self.assertIs(False, shows_back(program, machine, 3, 0, Back(*back.parts[:at], value, *back.parts[at + 1:])))
                for told, args in ((missed, (program, machine, 0, 3)), (zero, (moved, machine, 2, 0)), (refused, (cut, machine, 2, 1))):
                    paper = NoWay(*told.parts[:at], value, *told.parts[at + 1:])
                    if paper != told or isinstance(value, bool):
                        self.assertIs(holds(no_way_holds, *args, paper), shows_no_way(*args, paper))
        for name in ("z1", "p", "o", "z", None):
            self.assertFalse(shows_no_way(moved, machine, 2, 0, NoWay("zero", (0, 1, 2), ("x", name))))
        self.assertFalse(shows_no_way(moved, machine, 2, 0, NoWay("zero", (0, 1, 2), ("y", "z0"))))


if __name__ == "__main__":
    unittest.main()
