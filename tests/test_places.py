import itertools
import random
import unittest

from kinds import Checks, any_values, is_integer, random_programs, wrong_values
from takenup.blocks import Block
from takenup.errors import BadProgram, BadRun, NoPlace
from takenup.places import is_ring, is_run, least_run, need_run, passes, runs_of
from takenup.programs import Program
from ways import Walk

PATH = Program.read("x 0 ; on ; round ( x 4 ; skip ( here x 0 ) ) ; far x 0")
PASSABLE = Program.read("round ( skip ( x 1 ; x 2 ) ; skip ( round ( x 3 ) ) ) ; skip ( told 3 ( x 4 ) )")
PROGRAMS = [PATH, PASSABLE] + random_programs(31, 60, depth=4)


def is_place(program):
    return lambda value: is_integer(value) and 0 <= value <= program.end


class RunsTest(Checks, unittest.TestCase):
    def test_starts_and_next_places_by_the_walk(self):
        for program in PROGRAMS + random_programs(32, 150, depth=6):
            walk = Walk(program)
            self.assertEqual(sorted({state[0] for state in walk.starts}), list(program.starts))
            for place in range(program.end + 1):
                nexts = {ahead[0] for state in walk.states_at(place) for ahead in walk.nexts(state)}
                self.assertEqual(sorted(nexts), list(program.after(place)))

    def test_runs_by_the_walk(self):
        for program in PROGRAMS:
            walk = Walk(program)
            for begin in [None] + list(range(program.end + 1)):
                for most in (0, 1, 2, 5):
                    expected = walk.runs(most, begin)
                    if expected is None:
                        continue
                    self.assertEqual(expected, list(runs_of(program, most, begin)))

    def test_order_and_bounds(self):
        self.assertEqual([(0,), (0, 1), (0, 1, 2), (0, 1, 2, 2), (0, 1, 2, 3), (0, 1, 2, 4)], list(runs_of(PATH, 3)))
        self.assertEqual([(2,), (2, 2), (2, 3), (2, 4)], list(runs_of(PATH, 1, 2)))
        self.assertEqual([(5,)], list(runs_of(PATH, 1000, begin=5)))
        self.assertEqual([(0,)], list(runs_of(PATH, 0)))
        row = Program.read(" ; ".join(["-"] * 40))
        self.assertEqual([tuple(range(many)) for many in range(1, 42)], list(runs_of(row, 1000)))
        ring = Program.read("round ( - )")
        runs = list(runs_of(ring, 1000))
        self.assertEqual(2001, len(runs))
        self.assertEqual([(0,) * 1001, (0,) * 1000 + (1,)], runs[-2:])

    def test_runs_are_made_when_they_are_requested(self):
        wide = Program.read("round ( " + " ; ".join(["skip ( - )"] * 40) + " )")
        runs = list(itertools.islice(runs_of(wide, 1000), 5000))
        self.assertEqual(5000, len(set(runs)))
        self.assertEqual(sorted(runs, key=lambda run: (len(run), run)), runs)
        skips = Program.read(" ; ".join(["skip ( - )"] * 39) + " ; -")
        self.assertEqual((0,), next(iter(runs_of(skips, 1000))))

    def test_wrong_arguments_of_runs_of(self):
        for value in wrong_values(lambda value: isinstance(value, Program)):
            self.check_error(BadProgram, {"part": "program"}, runs_of, value, None, 99)
        for value in wrong_values(lambda value: is_integer(value) and 0 <= value <= 1000):
            self.check_error(BadProgram, {"part": "most"}, runs_of, PATH, value, 99)
        self.check_error(BadProgram, {"part": "most"}, runs_of, PATH, 1001)
        for value in wrong_values(lambda value: value is None or is_place(PATH)(value)):
            self.check_error(NoPlace, {"place": value}, runs_of, PATH, 3, value)

    def test_is_run_and_need_run(self):
        chance = random.Random(33)
        for program in PROGRAMS:
            runs = {begin: set(Walk(program).runs(3, begin, 10 ** 6)) for begin in [None] + list(range(program.end + 1))}
            for _ in range(60):
                value = tuple(chance.randint(-1, program.end + 1) for _ in range(chance.randint(1, 4)))
                for begin in (None, chance.randint(0, program.end)):
                    self.assertIs(value in runs[begin], is_run(program, value, begin))
                    self.assertIs(value in runs[begin], is_run(program, list(value), begin))
                    good = [at for at in range(len(value) + 1) if at == 0 or value[:at] in runs[begin]]
                    if good[-1] == len(value):
                        self.assertEqual(value, need_run(program, list(value), begin))
                    else:
                        self.check_error(BadRun, {"at": good[-1]}, need_run, program, value, begin)
            for begin, known in runs.items():
                for run in sorted(known)[:20]:
                    self.assertTrue(is_run(program, run, begin))
                    self.assertIs(tuple, type(need_run(program, list(run), begin)))

    def test_values_that_are_no_runs(self):
        for value in any_values():
            if isinstance(value, (list, tuple)) and list(value) == [0]:
                continue
            self.assertIs(False, is_run(PATH, value))
            self.assertIs(False, is_ring(PATH, value))
            self.check_error(BadRun, {"at": 0}, need_run, PATH, value)
            if not is_integer(value) or value != 1:
                self.assertIs(False, is_run(PATH, [0, value]))
                self.check_error(BadRun, {"at": 1}, need_run, PATH, [0, value])
                self.check_error(BadRun, {"at": 1}, need_run, PATH, (0, value, value))
        self.check_error(BadRun, {"at": 0}, need_run, PATH, [])
        self.check_error(BadRun, {"at": 0}, need_run, PATH, [1, 2])
        self.check_error(BadRun, {"at": 3}, need_run, PATH, (0, 1, 2, 5))
        self.check_error(BadRun, {"at": 5}, need_run, PATH, (0, 1, 2, 4, 5, 5))
        self.assertEqual((1, 2), need_run(PATH, [1, 2], begin=1))

    def test_wrong_arguments_of_is_run_and_need_run(self):
        for work in (is_run, need_run):
            for value in wrong_values(lambda value: isinstance(value, Program)):
                self.check_error(BadProgram, {"part": "program"}, work, value, None, 99)
            for value in wrong_values(lambda value: value is None or is_place(PATH)(value)):
                self.check_error(NoPlace, {"place": value}, work, PATH, None, value)
        for value in wrong_values(lambda value: isinstance(value, Program)):
            self.check_error(BadProgram, {"part": "program"}, is_ring, value, None)

    def test_is_ring(self):
        for program in PROGRAMS:
            for begin in range(program.end + 1):
                for run in Walk(program).runs(3, begin, 10 ** 6)[:200]:
                    self.assertIs(len(run) >= 2 and run[0] == run[-1], is_ring(program, list(run)))
        self.assertTrue(is_ring(PATH, (2, 2)) and is_ring(PATH, [3, 2, 3]))
        self.assertFalse(is_ring(PATH, (2,)) or is_ring(PATH, (4, 4)) or is_ring(PATH, (2, 3)) or is_ring(PATH, (2, True)))

    def test_a_passed_run_is_copied(self):
        value = [0, 1, 2]
        run = need_run(PATH, value)
        value.append(99)
        self.assertEqual((0, 1, 2), run)


class FirstRunsTest(Checks, unittest.TestCase):
    def test_least_run_by_the_walk(self):
        for program in PROGRAMS:
            walk = Walk(program)
            for begin in [None] + list(range(program.end + 1)):
                runs = walk.runs(5, begin)
                if runs is None:
                    continue
                first = {}
                for run in runs:
                    first.setdefault(run[-1], run)
                for place in range(program.end + 1):
                    told = least_run(program, place, begin)
                    if place in first:
                        self.assertEqual(first[place], told)
                    else:
                        self.assertTrue(told is None or len(told) > 6)

    def test_least_run(self):
        self.assertEqual((0, 1, 2, 4, 5), least_run(PATH, 5))
        self.assertEqual((3, 4, 5), least_run(PATH, 5, begin=3))
        self.assertEqual((3,), least_run(PATH, 3, 3))
        self.assertIsNone(least_run(PATH, 0, 1))
        for program in PROGRAMS:
            for place in range(program.end + 1):
                run = least_run(program, place)
                self.assertTrue(is_run(program, run) and run[-1] == place)
                self.assertIsNotNone(least_run(program, program.end, place))
        long = Program.read(" ; ".join(["round ( skip ( - ) ; - )"] * 20))
        self.assertEqual(21, len(least_run(long, 40)))

    def test_passes_by_the_walk(self):
        for program in PROGRAMS:
            walk = Walk(program)
            for place in range(program.end + 1):
                for other in range(program.end + 1):
                    self.assertIs(not walk.can_miss(place, other), passes(program, place, other))

    def test_passes(self):
        told = [[passes(PATH, place, other) for other in range(6)] for place in range(6)]
        self.assertEqual([True, True, True, False, True, False], told[5])
        self.assertEqual([True, True, False, False, False, False], told[2])
        self.assertEqual([True, True, True, False, False, False], told[3])
        self.assertEqual([False] * 6, told[0])

    def test_wrong_arguments(self):
        for work in (least_run, passes):
            for value in wrong_values(lambda value: isinstance(value, Program)):
                self.check_error(BadProgram, {"part": "program"}, work, value, 99, 99)
            for value in wrong_values(is_place(PATH)):
                self.check_error(NoPlace, {"place": value}, work, PATH, value, 99)
                if value is not None or work is passes:
                    self.check_error(NoPlace, {"place": value}, work, PATH, 2, value)
        self.check_error(NoPlace, {"place": 6}, least_run, PATH, 6)
        self.assertEqual(Block(), Program(Block())[0])


if __name__ == "__main__":
    unittest.main()
