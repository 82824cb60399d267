import unittest

from kinds import Checks, any_values, is_integer, wrong_values
from takenup.errors import BadMachine
from takenup.machines import Machine


class MachinesTest(Checks, unittest.TestCase):
    def test_attributes(self):
        self.assertEqual(("x", "y", "w"), Machine.AXES)
        self.assertEqual((5, 127), Machine.UNITS)
        self.assertEqual((("x",), 2), (Machine().axes, Machine().zeros))
        machine = Machine(zeros=4, axes=3)
        self.assertEqual(("x", "y", "w"), machine.axes)
        self.assertEqual(4, machine.zeros)
        self.assertEqual(("p", "z0", "z1", "z2", "z3", "o", "s"), machine.registers)
        self.assertEqual(("z0", "z1", "z2", "z3", "o", "s"), machine.kept)
        self.assertEqual(("p", "z0", "o", "s"), Machine(2, 1).registers)
        self.assertEqual(("z0", "o", "s"), Machine(2, 1).kept)
        self.assertEqual(("x", "y"), Machine(2, 1).axes)

    def test_wrong_axes_and_zeros(self):
        for value in wrong_values(lambda value: is_integer(value) and 1 <= value <= 3):
            self.check_error(BadMachine, {"part": "axes"}, Machine, value)
            self.check_error(BadMachine, {"part": "axes"}, Machine, value, value)
            self.check_error(BadMachine, {"part": "axes"}, Machine, value, None)
        for value in wrong_values(lambda value: is_integer(value) and 1 <= value <= 4):
            self.check_error(BadMachine, {"part": "zeros"}, Machine, 1, value)
        self.check_error(BadMachine, {"part": "zeros"}, Machine, 3, 5)
        self.check_error(BadMachine, {"part": "axes"}, Machine, 4, 4)

    def test_equality(self):
        self.assertTrue(Machine(2, 3) == Machine(axes=2, zeros=3))
        self.assertFalse(Machine(2, 3) == Machine(2, 2))
        self.assertFalse(Machine(2, 3) == Machine(1, 3))
        for value in any_values():
            self.assertFalse(Machine(2, 3) == value)

    def test_value_in_machine(self):
        for value in any_values() + ["xy", ("x",)]:
            self.assertIs(isinstance(value, str) and value in ("x", "y"), value in Machine(2, 1))
        self.assertNotIn("y", Machine(1, 1))
        self.assertIn("w", Machine(3, 1))

    def test_texts(self):
        self.assertEqual("machine 1 2", str(Machine()))
        for axes in range(1, 4):
            for zeros in range(1, 5):
                self.check_reads(Machine.read, Machine(axes, zeros))
        self.check_no_texts(Machine.read)
        for text, word in {
            "machine": 1, "machine 1": 2, "machine 0 2": 1, "machine 4 2": 1, "machine 1 0": 2, "machine 1 5": 2,
            "machine 1 2 ": 3, "machine 1 2 3": 3, " machine 1 2": 0, "machine  1 2": 1, "Machine 1 2": 0,
            "machine 01 2": 1, "machine +1 2": 1, "machine 1 2\n": 2, "machine\t1 2": 0, "1 2": 0,
            "machine " + "1" * 61 + " 2": 1, "machine 1 " + "9" * 5000: 2,
        }.items():
            self.check_text(Machine.read, text, word)
        endings = [[], ["1"], ["1", "1"], ["machine", "1", "1"]]
        self.check_wrong_texts(Machine.read, "machine 2 3", ["", "machine", "3", "4", "-"], endings)

    def test_methods_stand_in_the_class(self):
        for name in ("__init__", "__eq__", "__contains__", "__str__", "read"):
            self.assertIn(name, vars(Machine))


if __name__ == "__main__":
    unittest.main()
