import random
import unittest

from kinds import Checks, any_values, wrong_values
from takenup.errors import BadMachine, BadTarget, NoAxis
from takenup.machines import Machine
from takenup.standing import Standing, values_of
from takenup.sums import Sum
from takenup.targets import Target

TARGET = Target(Standing.read("far zero 0 pace 20"), y=Sum("o", -3), x=Sum("z0", 5))


def random_target(chance, machine=Machine(3, 4)):
    words = Standing(**{
        name: chance.choice(values_of(name, machine)) for name in Standing.NAMES if chance.random() < 0.4
    })
    sums = {
        axis: Sum(chance.choice(machine.kept), chance.choice([0, 1, -7, 10 ** 60 - 1]))
        for axis in machine.axes if chance.random() < 0.5
    }
    return Target(words, **sums)


def is_kept_sum(value):
    return isinstance(value, Sum) and value.source != "p"


class TargetsTest(Checks, unittest.TestCase):
    def test_attributes(self):
        self.assertEqual(Standing.read("far zero 0 pace 20"), TARGET.words)
        self.assertEqual(("x", "y"), TARGET.axes)
        self.assertEqual([("x", Sum("z0", 5)), ("y", Sum("o", -3))], list(TARGET.sums.items()))
        self.assertEqual(("far", "zero 0", "pace 20", "x", "y"), TARGET.entries)
        self.assertEqual(5, len(TARGET))
        self.assertEqual([Sum("z0", 5), Sum("o", -3), None], [TARGET.sum_of(axis) for axis in ("x", "y", "w")])
        self.assertEqual("far zero 0 pace 20 ; x z0+5 y o-3", str(TARGET))
        for name in ("__init__", "__len__", "sum_of", "__or__", "is_part_of", "fits", "__eq__", "__str__", "read"):
            self.assertIn(name, vars(Target))

    def test_targets_without_entries(self):
        for target in (Target(), Target(None), Target(Standing()), Target.read("- ; -")):
            self.assertFalse(target)
            self.assertEqual(("- ; -", (), (), {}, 0), (str(target), target.entries, target.axes, target.sums, len(target)))
        self.assertTrue(Target(x=Sum("o")) and Target(Standing(pace=0)))

    def test_equality(self):
        self.assertEqual(Target(words=Standing(zero=1), x=Sum("o")), Target(Standing(zero=1), x=Sum("o", 0)))
        for other in (Target(Standing(zero=1)), Target(x=Sum("o")), Target(Standing(zero=1), x=Sum("s")), Target(
            Standing(zero=1), y=Sum("o")), Target(Standing(zero=2), x=Sum("o"))):
            self.assertFalse(Target(Standing(zero=1), x=Sum("o")) == other)
        for value in any_values():
            self.assertFalse(TARGET == value)

    def test_both(self):
        other = Target(Standing.read("on cut"), x=Sum("s"), w=Sum("z3"))
        self.assertEqual("on zero 0 cut pace 20 ; x s y o-3 w z3", str(TARGET | other))
        self.assertEqual("far zero 0 cut pace 20 ; x z0+5 y o-3 w z3", str(other | TARGET))
        self.assertEqual(TARGET, TARGET | Target())

    def test_is_part_of(self):
        chance = random.Random(191)
        for _ in range(300):
            one, other = random_target(chance), random_target(chance)
            both = one | other
            self.assertTrue(other.is_part_of(both) and one.is_part_of(one) and Target().is_part_of(one))
            expected = all(one.words[name] in (None, other.words[name]) for name in Standing.NAMES) and all(
                one.sum_of(axis) is None or one.sum_of(axis) == other.sum_of(axis) for axis in Machine.AXES
            )
            self.assertIs(expected, one.is_part_of(other))
            self.assertIs(one == both, other.is_part_of(one))

    def test_fits(self):
        target = Target(Standing(zero=2), y=Sum("z1"), x=Sum("o"))
        self.assertEqual([True, False, False, True], [target.fits(Machine(*one)) for one in ((2, 3), (1, 4), (3, 2), (3, 4))])
        self.assertFalse(Target(x=Sum("z3")).fits(Machine(1, 3)))
        self.assertTrue(Target().fits(Machine(1, 1)))
        for value in wrong_values(lambda value: isinstance(value, Machine)):
            self.check_error(BadMachine, {"part": "machine"}, target.fits, value)

    def test_texts(self):
        chance = random.Random(192)
        for _ in range(200):
            self.check_reads(Target.read, random_target(chance))
        self.assertEqual("far ; x z0+5", str(Target.read("far ; x z0+5")))
        words = ["far", "zero", "0", "-", ";", "x", "y", "z0+5", "p", "p+5", "o", "z4", "", "pace", "100", "still"]
        endings = [
            [], [";", "-"], ["-"], ["0", ";", "-"], ["o"], [";", "x", "o"], ["x", "o"], ["-", ";", "-"], ["y", "o"],
        ]
        for text in ("far zero 0 pace 20 ; x z0+5 y o-3", "- ; -", "coarse ; -", "- ; w s-1"):
            self.check_wrong_texts(Target.read, text, words, endings)

    def test_wrong_texts(self):
        for text, word in {
            "far": 1, "far ;": 2, "; -": 0, "far - ; -": 1, "- ; x p": 3, "- ; x p+1": 3, "- ; x": 3, "- ; y o x o": 4,
            "- ; x o x o": 4, "- ; - -": 3, "- far ; -": 1, "on far ; -": 1, "- ; x z0+05": 3, "- ; x o+0": 3, "zero 4 ; -": 1,
            "- ; x z0+" + "1" * 61: 3, "far  ; -": 1, " far ; -": 0, "- ; -\n": 2, "- ; x z4": 3, "- ; q o": 2, "- ; x -": 3,
        }.items():
            self.check_text(Target.read, text, word)
        self.check_no_texts(Target.read)

    def test_wrong_arguments(self):
        for value in wrong_values(lambda value: value is None or isinstance(value, Standing)):
            self.check_error(BadTarget, {"part": "words"}, Target, value, q=5, x=5)
        self.check_error(NoAxis, {"axis": "q"}, Target, None, x=5, q=5, z=5)
        self.check_error(NoAxis, {"axis": "z0"}, Target, None, x=5, z0=5, q=5)
        for value in wrong_values(is_kept_sum) + [Sum("p", 4)]:
            self.check_error(BadTarget, {"part": "x"}, Target, None, y=value, x=value)
            self.check_error(BadTarget, {"part": "w"}, Target, None, w=value, x=Sum("o"))
        for value in wrong_values(lambda value: isinstance(value, str) and value in Machine.AXES):
            self.check_error(NoAxis, {"axis": value}, TARGET.sum_of, value)
        for value in wrong_values(lambda value: isinstance(value, Target)):
            self.check_error(BadTarget, {"part": "other"}, lambda: TARGET | value)
            self.check_error(BadTarget, {"part": "other"}, TARGET.is_part_of, value)

    def test_what_is_returned_may_be_changed(self):
        sums = TARGET.sums
        sums["w"] = Sum("o")
        del sums["x"]
        self.assertEqual("far zero 0 pace 20 ; x z0+5 y o-3", str(TARGET))


if __name__ == "__main__":
    unittest.main()
