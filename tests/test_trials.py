import random
import unittest

from acts import random_act, random_stand
from kinds import Checks, random_programs, wrong_values
from plain_control import PlainControl, check_act, compare
from takenup.controls import Control
from takenup.errors import BadControl, NoPlace, Nothing
from takenup.machines import Machine
from takenup.programs import Program
from takenup.stands import Stand
from takenup.tapes import Tape
from takenup.trials import Trial, both, tried

PATH = Program.read("x 0 ; on ; round ( x 4 ; here x 0 )")
ONE = Machine(1, 1)


class Out(Exception):
    """An error of the tests' own."""


def some_acts(test, chance, plain, control, many):
    for _ in range(many):
        name, args, more = random_act(chance, control, [control.program])
        if name == "take_up" and not args:
            continue
        check_act(test, plain, control, name, *args, **more)


class TrialsTest(Checks, unittest.TestCase):
    def random_pair(self, chance, program):
        machine = Machine(2, 2)
        stand = random_stand(chance, machine)
        plain, control = PlainControl(program, machine, stand), Control(program, machine, stand)
        some_acts(self, chance, plain, control, 10)
        return plain, control

    def check_as_before(self, plain, control):
        """In all as it was: what is seen, and all that can be undone and done again."""
        compare(self, plain, control)
        plain, twin = plain.twin(), control.twin()
        for name, many in (("undo", len(plain.before)), ("again", len(plain.before) + len(plain.behind))):
            for _ in range(many):
                check_act(self, plain, twin, name)
            self.check_error(Nothing, {}, getattr(twin, name))

    def test_trials(self):
        chance = random.Random(751)
        for program in random_programs(752, 30, depth=3, axes=2):
            plain, control = self.random_pair(chance, program)
            trial = Trial(control)
            for _ in range(2):
                with trial as held:
                    self.assertIs(control, held)
                    within = plain.twin()
                    some_acts(self, chance, within, held, 8)
                    while within.before:
                        check_act(self, within, held, "undo")
                    some_acts(self, chance, within, held, 3)
                self.check_as_before(plain, control)
                some_acts(self, chance, plain, control, 2)

    def test_trials_within_trials(self):
        chance = random.Random(753)
        for program in random_programs(754, 25, depth=3, axes=2):
            plain, control = self.random_pair(chance, program)
            outer, inner = Trial(control), Trial(control)
            for first, second in ((outer, inner), (outer, outer), (inner, outer)):
                with first:
                    one = plain.twin()
                    some_acts(self, chance, one, control, 4)
                    with second:
                        other = one.twin()
                        some_acts(self, chance, other, control, 4)
                        with first:
                            some_acts(self, chance, other.twin(), control, 3)
                        self.check_as_before(other, control)
                    self.check_as_before(one, control)
                    some_acts(self, chance, one, control, 2)
                self.check_as_before(plain, control)

    def test_errors_go_on(self):
        chance = random.Random(755)
        for program in random_programs(756, 20, depth=3, axes=2):
            plain, control = self.random_pair(chance, program)
            with self.assertRaises(Out):
                with Trial(control):
                    some_acts(self, chance, plain.twin(), control, 5)
                    raise Out()
            self.check_as_before(plain, control)
            with self.assertRaises(Out):
                with Trial(control) as one:
                    with Trial(control):
                        some_acts(self, chance, plain.twin(), one, 5)
                        raise Out()
            self.check_as_before(plain, control)
        control = Control(PATH, ONE, Stand(ONE))
        with self.assertRaises(NoPlace):
            with Trial(control) as held:
                held.step(1)
                held.step(9)
        self.assertEqual((0, Tape()), (control.place, control.tape))

    def test_tried(self):
        control = Control(PATH, ONE, Stand(ONE, x={"z0": 10}))
        self.assertEqual("rapid 10", tried(control, lambda held: str(held.step(1)[0])))
        self.assertEqual((0, Tape()), (control.place, control.tape))
        self.check_error(NoPlace, {"place": 7}, tried, control, lambda held: (held.step(1), held.step(7)))
        self.assertEqual((0, Tape()), (control.place, control.tape))
        self.assertIs(control, tried(control, lambda held: held))
        nested = tried(control, lambda held: (held.step(1), tried(held, lambda one: one.step(2)), held.place))
        self.assertEqual(1, nested[2])

    def test_both(self):
        control = Control(PATH, ONE, Stand(ONE, x={"z0": 10}))
        control.step(1)

        def broken(held):
            held.break_off(x=-5)
            held.resume()
            held.step(2)
            held.step(3)

        def whole(held):
            held.step(2)
            held.step(3)
        one, other = both(control, broken, whole)
        self.assertEqual((one, 3), (other, len(other)))
        self.assertEqual((1, (0, 1), False), (control.place, control.run, control.is_broken))
        self.assertEqual((Tape(*control.tape.rows[:0]), control.tape), both(control, lambda held: held.undo(), lambda held: None))
        self.assertIsNone(one.parting(other))
        self.check_error(NoPlace, {"place": 0}, both, control, whole, lambda held: held.step(0))
        self.check_error(Nothing, {}, both, control, lambda held: held.again(), lambda held: held.step(0))
        self.assertEqual((1, (0, 1), False), (control.place, control.run, control.is_broken))

    def test_wrong_controls(self):
        def never(held):
            raise Out()
        for value in wrong_values(lambda value: isinstance(value, Control)):
            self.check_error(BadControl, {"part": "control"}, Trial, value)
            self.check_error(BadControl, {"part": "control"}, tried, value, never)
            self.check_error(BadControl, {"part": "control"}, both, value, never, never)
        for name in ("__init__", "__enter__", "__exit__"):
            self.assertIn(name, vars(Trial))


if __name__ == "__main__":
    unittest.main()
