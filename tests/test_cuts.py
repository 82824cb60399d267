import itertools
import random
import unittest

from kinds import Checks, any_values, is_integer, programs_of, random_programs, wrong_values
from oracles import bends, holds, need, need_integer, unfixed
from plain_play import FIRST, do_run, marks_of_step, random_numbers
from takenup.blocks import Block
from takenup.cuts import Cuts, Endless, cuts_of, most_cuts, run_cuts
from takenup.errors import BadProgram, BadRun, BadWords, NoPlace
from takenup.items import Told
from takenup.look_back import shows_cuts
from takenup.machines import Machine
from takenup.papers import Denial, Paper
from takenup.places import is_ring, is_run, least_run, runs_of
from takenup.programs import Program

MANY = 10 ** 12
PATH = Program.read("x 1 ; cut x 2 ; round ( x 3 ; skip ( rapid ) ) ; x 4")
BLOCKS = ("cut", "rapid", "x 1", "cut x 1", "rapid x 1", "home x", "here x 1", "-")


def programs(seed, many):
    """Programs in which cuts are counted in many ways."""
    return random_programs(seed, many, depth=3) + programs_of(seed, many, BLOCKS) + programs_of(seed + 1, many, BLOCKS, 4, 3)


def cuts_in_play(program, run, since):
    """How many cuts the steps of a run tell from an index on, by playing."""
    machine = Machine(1, 4)
    words, numbers = dict(FIRST), random_numbers(random.Random(1), machine)
    do_run(words, numbers, program, run[:since + 1])
    return sum(
        mark[0] == "cut" for place in run[since:-1] for mark in marks_of_step(words, numbers, program.steps[place])
    )


def visit_of(run, other):
    return max((at for at, place in enumerate(run[:-1]) if place == other), default=None)


def way_along(program, run, way="rapid"):
    for place in run[:-1]:
        _, way = cuts_of(program[place], way)
    return way


def leads(program, place, other):
    """The places from which some run on to place is not at other behind its first place, by plain widening."""
    found = {place}
    while True:
        more = {
            at for at in range(program.end) if any(after in found and after != other for after in program.after(at))
        } - found
        if not more:
            return found
        found |= more


def endless_holds(program, place, other, value):
    need(type(value) is Endless)
    need(is_run(program, value.run) and other in value.run[:-1])
    need(is_ring(program, value.ring) and value.ring[0] == value.run[-1])
    need(is_run(program, value.on, value.ring[0]) and value.on[-1] == place)
    need(other not in value.ring + value.on)
    way = way_along(program, value.run)
    need(way_along(program, value.ring, way) == way)
    total = 0
    for at in value.ring[:-1]:
        many, way = cuts_of(program[at], way)
        total += many
    need(total > 0)


def cuts_hold(program, place, other, value):
    """The conditions of a Cuts, said once more."""
    need(type(value) is Cuts)
    need_integer(value.number)
    need(is_run(program, value.run) and value.run[-1] == place and other in value.run[:-1])
    need(run_cuts(program, value.run, other) == value.number)
    need(type(value.rows) is tuple)
    heights = {}
    for at, way, height in value.rows:
        need_integer(at, 0, program.end)
        need(way in ("rapid", "cut") and (at, way) not in heights)
        need(height is None or type(height) is int)
        heights[at, way] = height
    need(all((start, "rapid") in heights for start in program.starts))
    leading = leads(program, place, other)
    for (at, way), height in heights.items():
        need(at != other or height == 0)
        need(at != place or height is None or height <= value.number)
        if at < program.end:
            many, behind = cuts_of(program[at], way)
            for after in program.after(at):
                ahead = heights[after, behind]
                if height is not None and at in leading and after in leading and after != other:
                    need(ahead is not None and ahead >= height + many)


def either_holds(program, place, other, value):
    (endless_holds if type(value) is Endless else cuts_hold)(program, place, other, value)


class StepsTest(Checks, unittest.TestCase):
    def test_against_playing(self):
        for program in programs(501, 40):
            for step in program.steps:
                for way in ("rapid", "cut"):
                    words, numbers = {**FIRST, "way": way}, random_numbers(random.Random(1), Machine(1, 4))
                    marks = marks_of_step(words, numbers, step)
                    self.assertEqual((sum(mark[0] == "cut" for mark in marks), words["way"]), cuts_of(step, way))

    def test_great_tolds(self):
        for text, way, told in (
            (f"told {MANY} ( x 1 ; cut x 2 )", "rapid", (2 * MANY - 1, "cut")), (f"told {MANY} ( x 1 ; cut x 2 )", "cut", (2 * MANY, "cut")),
            (f"told {MANY} ( x 1 ; told {MANY} ( x 1 ) ; cut ; rapid x 2 )", "cut", (MANY + 1, "rapid")),
            (f"told {MANY} ( told {MANY} ( cut home x ) )", "rapid", (MANY ** 2, "cut")), ("here x 1", "cut", (0, "cut")),
            ("cut", "rapid", (0, "cut")), ("rapid x 1", "cut", (0, "rapid")), ("touch x", "cut", (1, "cut")),
        ):
            self.assertEqual(told, cuts_of(Program.read(text)[0], way), text)

    def test_wrong_arguments(self):
        for value in wrong_values(lambda value: isinstance(value, (Block, Told))):
            self.check_error(BadProgram, {"part": "step"}, cuts_of, value, 9)
        for value in any_values() + ["Cut", ("cut",), "", "cut "]:
            self.check_error(BadWords, {"part": "way"}, cuts_of, Block(), value)

    def test_run_cuts(self):
        for program in programs(502, 25):
            for run in itertools.islice(runs_of(program, 6), 120):
                for other in range(program.end + 1):
                    visit = visit_of(run, other)
                    if visit is None:
                        self.check_error(NoPlace, {"place": other}, run_cuts, program, run, other)
                    else:
                        self.assertEqual(cuts_in_play(program, run, visit), run_cuts(program, list(run), other))

    def test_run_cuts_of_its_own_last_place(self):
        program = Program.read("round ( cut x 1 ; x 2 )")
        self.assertEqual(2, run_cuts(program, (0, 1, 0, 1, 0), 0))
        self.assertEqual(1, run_cuts(program, (0, 1, 0, 1, 0), 1))
        self.check_error(NoPlace, {"place": 0}, run_cuts, program, (0,), 0)

    def test_wrong_runs(self):
        for value in wrong_values(lambda value: isinstance(value, Program)):
            self.check_error(BadProgram, {"part": "program"}, run_cuts, value, 9, 9)
        for value in wrong_values(lambda value: value in ([0], (0,)) and type(value[0]) is int):
            at = 0 if not isinstance(value, (list, tuple)) or not value or value[0] != 0 else 1
            self.check_error(BadRun, {"at": at}, run_cuts, PATH, value, 9)
        self.check_error(BadRun, {"at": 2}, run_cuts, PATH, (0, 1, 4), 0)
        self.check_error(BadRun, {"at": 1}, run_cuts, PATH, [0, True], 0)
        for value in wrong_values(lambda value: is_integer(value) and value in (0, 1)):
            self.check_error(NoPlace, {"place": value}, run_cuts, PATH, (0, 1, 2), value)


class MostTest(Checks, unittest.TestCase):
    def test_against_all_runs_of_few_steps(self):
        found, reached = [], 0
        for program in programs(503, 35):
            stretches = {}
            for run in itertools.islice(runs_of(program, 8), 600):
                for other in set(run[:-1]) - {run[-1]}:
                    stretches.setdefault((run[-1], other), []).append(run_cuts(program, run, other))
            for place, other in itertools.permutations(range(program.end + 1), 2):
                told = most_cuts(program, place, other)
                found.append("none" if told is None else told.word)
                if told is None:
                    self.assertNotIn((place, other), stretches)
                    continue
                self.assertIs(True, shows_cuts(program, place, other, told))
                self.assertTrue(holds(either_holds, program, place, other, told), (str(program), place, other))
                if told:
                    self.check_cuts(program, place, other, told)
                    most = max(stretches.get((place, other), [0]))
                    self.assertLessEqual(most, told.number)
                    reached += most == told.number
        self.assertTrue(found.count("cuts") > 800 and found.count("endless") > 150 and found.count("none") > 500)
        self.assertGreater(reached, 0.9 * found.count("cuts"))

    def check_cuts(self, program, place, other, told):
        self.assertIs(Cuts, type(told))
        ways = {
            (at, way_along(program, run)) for at in range(program.end + 1)
            for run in itertools.islice(runs_of(program, 9), 800) if run[-1] == at
        } if program.end < 4 else {(at, way) for at, way, _ in told.rows}
        self.assertEqual(sorted(ways, key=lambda row: (row[0], row[1] == "cut")), [row[:2] for row in told.rows])
        leading = leads(program, place, other)
        for at, way, height in told.rows:
            if at == other:
                self.assertEqual(0, height)
            elif at not in leading:
                self.assertIsNone(height)

    def test_heights_against_all_runs(self):
        for program in programs_of(505, 60, BLOCKS, 3, 3):
            if program.end > 4:
                continue
            runs = list(itertools.islice(runs_of(program, 9), 3000))
            for place, other in itertools.permutations(range(program.end + 1), 2):
                told = most_cuts(program, place, other)
                if told:
                    leading = leads(program, place, other)
                    for at, way, height in told.rows:
                        if at in leading and at != other:
                            seen = [
                                run_cuts(program, run, other) for run in runs
                                if run[-1] == at and other in run[:-1] and way_along(program, run) == way
                            ]
                            self.assertEqual(max(seen, default=None), height, (str(program), place, other, at, way))

    def test_rings(self):
        """Each time round a ring there are as many cuts more."""
        for program in programs(506, 30):
            for place, other in itertools.permutations(range(program.end + 1), 2):
                told = most_cuts(program, place, other)
                if told is not None and not told:
                    numbers = [
                        run_cuts(program, told.run + told.ring[1:] * times + told.on[1:], other) for times in range(4)
                    ]
                    gains = {more - less for less, more in zip(numbers, numbers[1:])}
                    self.assertTrue(len(gains) == 1 and min(gains) > 0)

    def test_by_hand(self):
        for text, place, other, told in (
            ("x 1 ; cut x 2 ; x 3 ; rapid x 4", 4, 0, 2), ("x 1 ; cut x 2 ; x 3 ; rapid x 4", 4, 2, 1),
            ("x 1 ; cut x 2 ; x 3 ; rapid x 4", 2, 3, None), ("cut ; round ( x 1 ) ; x 2", 2, 0, "endless"),
            ("cut ; round ( x 1 ) ; x 2", 2, 1, 1), ("cut ; round ( x 1 ; x 3 ) ; x 2", 3, 1, 2), ("round ( x 1 ; skip ( cut ) ; rapid )", 3, 0, 0),
            ("skip ( cut ) ; x 1 ; x 2", 3, 1, 2), (f"cut ; told {MANY} ( x 1 ) ; told 7 ( x 1 ; told 3 ( x 2 ) )", 3, 0, MANY + 28),
            ("x 1", 0, 1, None), ("cut ; round ( x 1 ; rapid ; cut )", 1, 0, "endless"), ("cut ; round ( x 1 ; rapid )", 3, 0, 1),
        ):
            found = most_cuts(Program.read(text), place, other)
            if told == "endless":
                self.assertIs(Endless, type(found), text)
            else:
                self.assertEqual(told, None if found is None else found.number, (text, place, other))

    def test_rows_by_hand(self):
        program = Program.read("cut x 1 ; round ( x 2 ; skip ( rapid ) ) ; x 3 ; x 4")
        told = most_cuts(program, 4, 1)
        self.assertEqual((
            (0, "rapid", None), (1, "rapid", 0), (1, "cut", 0), (2, "rapid", 0), (2, "cut", 1), (3, "rapid", 1), (3, "cut", 1),
            (4, "rapid", 1), (4, "cut", 2), (5, "rapid", None), (5, "cut", None),
        ), told.rows)
        self.assertEqual((2, (0, 1, 3, 4)), (told.number, told.run))

    def test_many_steps(self):
        text = "x 1 ; skip ( here x 0 ; round ( x -2 ; skip ( cut x 1 ; round ( rapid x 3 ; x 4 ) ) ) )"
        program = Program.read(f"x 0 ; round ( round ( {text} ) ; skip ( {text} ) ; {text} ) ; {text} ; {text} ; cut")
        for place, other in itertools.permutations(range(0, program.end + 1, 3), 2):
            told = most_cuts(program, place, other)
            self.assertIs(told is not None, shows_cuts(program, place, other, told))

    def test_papers(self):
        told = Cuts(rows=[1], run=[2], number=3)
        self.assertEqual((3, (2,), (1,)), (told.number, told.run, told.rows))
        self.assertTrue(told == Paper("cuts", 3, [2], [1]) and bool(told) and not isinstance(told, Denial))
        told = Endless(on=[1], ring=[2], run=[3])
        self.assertEqual(((3,), (2,), (1,)), (told.run, told.ring, told.on))
        self.assertTrue(told == Paper("endless", [3], [2], [1]) and not told and isinstance(told, Denial))

    def test_wrong_arguments(self):
        for work, rest in ((most_cuts, ()), (shows_cuts, (9,))):
            for value in wrong_values(lambda value: isinstance(value, Program)):
                self.check_error(BadProgram, {"part": "program"}, work, value, 99, 99, *rest)
            for value in wrong_values(lambda value: is_integer(value) and 0 <= value <= PATH.end):
                self.check_error(NoPlace, {"place": value}, work, PATH, value, 99, *rest)
                self.check_error(NoPlace, {"place": value}, work, PATH, 0, value, *rest)
            for place in range(PATH.end + 1):
                self.check_error(NoPlace, {"place": place}, work, PATH, place, place, *rest)


class LookTest(Checks, unittest.TestCase):
    def test_bent_papers(self):
        chance = random.Random(507)
        taken = refused = 0
        for program in programs(508, 25):
            place, other = chance.sample(range(program.end + 1), 2)
            told = most_cuts(program, place, other)
            self.assertIs(told is not None, shows_cuts(program, place, other, told))
            if told is None:
                continue
            self.assertTrue(shows_cuts(program, place, other, type(told)(*[unfixed(part) for part in told.parts])))
            values = [parts for parts in bends(told.parts) if len(parts) == 3]
            for parts in chance.sample(values, min(40, len(values))):
                value = type(told)(*parts)
                shown = shows_cuts(program, place, other, value)
                self.assertIs(holds(either_holds, program, place, other, value), shown)
                taken, refused = taken + shown, refused + (not shown)
            if told:
                more = Cuts(told.number, told.run, told.rows[::-1])
                self.assertTrue(shows_cuts(program, place, other, more))
        self.assertTrue(taken > 10 and refused > 500, (taken, refused))

    def test_at_other_places(self):
        taken = refused = 0
        for program in programs(509, 12):
            for place, other in itertools.permutations(range(program.end + 1), 2):
                told = most_cuts(program, place, other)
                for at, another in itertools.permutations(range(program.end + 1), 2):
                    if told is not None and (at, another) != (place, other):
                        shown = shows_cuts(program, at, another, told)
                        self.assertIs(holds(either_holds, program, at, another, told), shown)
                        taken, refused = taken + shown, refused + (not shown)
        self.assertGreater(refused, 1000)

    def test_greater_heights_and_more_rows(self):
        program = Program.read("cut x 1 ; skip ( x 2 ) ; x 3 ; rapid")
        told = most_cuts(program, 3, 0)
        self.assertEqual(3, told.number)
        self.assertTrue(shows_cuts(program, 3, 0, told))
        rows = dict((row[:2], row[2]) for row in told.rows)

        def shown(number=3, run=told.run, **changes):
            changed = {**rows, **{(int(name[1:]), "cut"): height for name, height in changes.items()}}
            return shows_cuts(program, 3, 0, Cuts(number, run, [(*key, height) for key, height in changed.items()]))
        self.assertTrue(shown() and shown(p4=7) and shown(p4=None) and shown(p4=-5))
        self.assertFalse(shown(p1=2) or shown(p2=1) or shown(p2=3) or shown(p3=2) or shown(p3=4) or shown(p1=None))
        self.assertFalse(shown(p1=2, p2=3, p3=4) or shown(4, p3=4) or shown(2, (0, 2, 3), p3=2) or shown(2, (0, 2, 3)))
        self.assertFalse(shown(run=least_run(program, 3)) or shown(run=(0,)) or shown(run=(0, 1, 2, 3, 4)))
        more = ((2, "rapid", None), (3, "rapid", None)) + told.rows
        self.assertTrue(shows_cuts(program, 3, 0, Cuts(3, told.run, more)))
        self.assertFalse(shows_cuts(program, 3, 0, Cuts(3, told.run, told.rows + ((2, "rapid", None),))))
        self.assertFalse(shows_cuts(program, 3, 0, Cuts(3, told.run, told.rows + ((4, "rapid", 9),))))
        for rapid, shows in ((3, True), (2, True), (4, False)):
            more = ((2, "rapid", rapid), (3, "rapid", rapid)) + told.rows
            self.assertIs(shows, shows_cuts(program, 3, 0, Cuts(3, told.run, more)))
        self.assertFalse(shows_cuts(program, 3, 0, Cuts(3, told.run, ((2, "rapid", 3), (3, "rapid", 2)) + told.rows)))

    def test_rings(self):
        """A ring must have a cut, and leave the way as it was."""
        program = Program.read("x 0 ; round ( skip ( cut ) ; skip ( rapid ) ; round ( x 1 ) ) ; x 2")
        for run, ring, on, shown in (
            ((0, 1, 3), (3, 3), (3, 4), True), ((0, 1, 3), (3, 1, 3), (3, 4), True), ((0, 3), (3, 3), (3, 4), False), ((0, 3), (3, 1, 3), (3, 4), False),
            ((0, 3), (3, 3, 1, 3), (3, 4), False), ((0, 1, 3), (3, 2, 3), (3, 4), False), ((0, 1, 3), (3, 3, 2, 3), (3, 4), False), ((0, 1), (1, 3, 1), (1, 3, 4), False),
            ((0, 1, 3, 1), (1, 3, 1), (1, 3, 4), True), ((0, 1, 3), (3, 3), (3, 3, 4), True), ((0, 1, 3), (3, 3), (3,), False), ((0, 1, 3), (3,), (3, 4), False),
            ((0, 1, 3), (3, 2, 1, 3), (3, 4), False), ((0, 1, 3), (3, 2, 3, 1, 3), (3, 4), True), ((0, 1), (3, 3), (3, 4), False), ((0, 1, 3), (3, 3), (1, 3, 4), False),
        ):
            value = Endless(run, ring, on)
            self.assertIs(shown, shows_cuts(program, 4, 0, value), (run, ring, on))
            self.assertIs(shown, holds(either_holds, program, 4, 0, value), (run, ring, on))
        for other, shown in ((0, True), (1, True), (2, False), (3, False)):
            self.assertIs(shown, shows_cuts(program, 4, other, Endless((0, 1, 3), (3, 3), (3, 4))))

    def test_ways_of_rows(self):
        program = Program.read("cut x 1 ; x 2")
        told = most_cuts(program, 1, 0)
        self.assertTrue(shows_cuts(program, 1, 0, Cuts(told.number, told.run, told.rows + ((2, "rapid", None),))))
        for way in ("q", "Cut", "", None, 0, "cut ", ("cut",)):
            self.assertFalse(shows_cuts(program, 1, 0, Cuts(told.number, told.run, told.rows + ((2, way, None),))))

    def test_any_value(self):
        program = Program.read("cut x 1 ; round ( x 2 ) ; rapid x 3")
        for place, other in ((2, 1), (2, 0)):
            told = most_cuts(program, place, other)
            self.assertTrue(shows_cuts(program, place, other, told))
            for value in any_values() + [Paper(told.word, *told.parts), told.parts]:
                self.assertIs(False, shows_cuts(program, place, other, value))
                for at in range(3):
                    parts = told.parts[:at] + (value,) + told.parts[at + 1:]
                    if parts != told.parts or isinstance(value, bool):
                        self.assertIs(False, shows_cuts(program, place, other, type(told)(*parts)))
                parts = told.parts[:2] + (told.parts[2] + (value,),)
                self.assertIs(False, shows_cuts(program, place, other, type(told)(*parts)))
                if told:
                    for at in range(3):
                        for row in range(len(told.rows)):
                            bent = told.rows[row][:at] + (value,) + told.rows[row][at + 1:]
                            rows = told.rows[:row] + (bent,) + told.rows[row + 1:]
                            paper = Cuts(told.number, told.run, rows)
                            self.assertIs(holds(either_holds, program, place, other, paper), shows_cuts(program, place, other, paper))


if __name__ == "__main__":
    unittest.main()
