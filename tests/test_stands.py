import random
import unittest

from kinds import Checks, any_values, is_integer, wrong_values
from plain_play import random_numbers
from takenup.errors import BadStand, NoAxis, NoRegister
from takenup.machines import Machine
from takenup.stands import Stand


def is_name(machine):
    return lambda value: isinstance(value, str) and value in machine.registers


def is_axis(machine):
    return lambda value: isinstance(value, str) and value in machine.axes


class StandsTest(Checks, unittest.TestCase):
    def setUp(self):
        self.machine = Machine(2, 2)
        self.stand = Stand(self.machine, x={"p": 3, "z0": 10, "s": -4}, y={"z1": 10 ** 60})

    def test_attributes(self):
        stand = self.stand
        self.assertEqual(self.machine, stand.machine)
        self.assertEqual((3, 0), stand.positions)
        self.assertEqual(((10, 0), (0, 10 ** 60)), stand.zeros)
        triples = [
            ("x", "p", 3), ("x", "z0", 10), ("x", "z1", 0), ("x", "o", 0), ("x", "s", -4),
            ("y", "p", 0), ("y", "z0", 0), ("y", "z1", 10 ** 60), ("y", "o", 0), ("y", "s", 0),
        ]
        self.assertEqual(triples, list(stand))
        for axis, name, number in triples:
            self.assertEqual(number, stand[axis, name])
        self.assertEqual([("p", 3), ("z0", 10), ("z1", 0), ("o", 0), ("s", -4)], list(stand.numbers("x").items()))
        self.assertEqual((0,), Stand(Machine(1, 1)).positions)

    def test_random_stands(self):
        chance = random.Random(81)
        for axes in range(1, 4):
            for zeros in range(1, 5):
                machine = Machine(axes, zeros)
                numbers = random_numbers(chance, machine, 10 ** 60 - 1)
                stand = Stand(machine, **numbers)
                self.assertEqual(numbers, {axis: stand.numbers(axis) for axis in machine.axes})
                self.assertEqual(tuple(numbers[axis]["p"] for axis in machine.axes), stand.positions)
                self.assertEqual(
                    tuple(tuple(numbers[axis][f"z{at}"] for at in range(zeros)) for axis in machine.axes), stand.zeros
                )
                self.check_reads(Stand.read, stand)

    def test_wrong_arguments(self):
        for value in wrong_values(lambda value: isinstance(value, Machine)):
            self.check_error(BadStand, {"part": "machine"}, Stand, value, q=5, x=5)
        self.check_error(NoAxis, {"axis": "w"}, Stand, self.machine, w={}, x=5)
        self.check_error(NoAxis, {"axis": "q"}, Stand, self.machine, x=5, q={}, w={})
        self.check_error(NoAxis, {"axis": "w"}, Stand, self.machine, x=5, w={}, q={})
        for value in wrong_values(lambda value: isinstance(value, dict)):
            self.check_error(BadStand, {"part": "x"}, Stand, self.machine, y=value, x=value)
            self.check_error(BadStand, {"part": "y"}, Stand, self.machine, y=value, x={})
        for value in wrong_values(is_integer):
            self.check_error(BadStand, {"part": "y"}, Stand, self.machine, y={"p": 1, "o": value})
        for key in (None, 0, True, "z2", "x", "", ("p",)):
            self.check_error(BadStand, {"part": "x"}, Stand, self.machine, x={key: 1}, y={key: 1})

    def test_items_of_wrong_values(self):
        for value in wrong_values(is_axis(self.machine)):
            self.check_error(NoAxis, {"axis": value}, lambda: self.stand[value, "q"])
            self.check_error(NoAxis, {"axis": value}, self.stand.numbers, value)
            self.check_error(NoAxis, {"axis": value}, self.stand.with_number, value, "q", None)
        for value in wrong_values(is_name(self.machine)):
            self.check_error(NoRegister, {"name": value}, lambda: self.stand["x", value])
            self.check_error(NoRegister, {"name": value}, self.stand.with_number, "x", value, None)
        for value in wrong_values(is_integer):
            self.check_error(BadStand, {"part": "number"}, self.stand.with_number, "x", "p", value)

    def test_with_number(self):
        for axis, name, number in list(self.stand):
            other = self.stand.with_number(axis, name, -(10 ** 40))
            self.assertEqual(
                [(one, two, -(10 ** 40) if (one, two) == (axis, name) else old) for one, two, old in self.stand],
                list(other),
            )
            self.assertEqual(number, self.stand[axis, name])
        self.assertEqual(7, self.stand.with_number(axis="y", name="p", number=7)["y", "p"])

    def test_with_positions(self):
        other = self.stand.with_positions(y=-8)
        self.assertEqual((3, -8), other.positions)
        self.assertEqual(self.stand.zeros, other.zeros)
        self.assertEqual((1, 2), self.stand.with_positions(y=2, x=1).positions)
        self.assertEqual(self.stand, self.stand.with_positions())
        self.assertEqual((3, 0), self.stand.positions)
        self.check_error(NoAxis, {"axis": "w"}, self.stand.with_positions, x=None, w=1, q=1)
        self.check_error(NoAxis, {"axis": "q"}, self.stand.with_positions, q=1, w=1)
        for value in wrong_values(is_integer):
            self.check_error(BadStand, {"part": "x"}, self.stand.with_positions, y=value, x=value)
            self.check_error(BadStand, {"part": "y"}, self.stand.with_positions, y=value, x=1)

    def test_copies(self):
        row = {"p": 1}
        stand = Stand(self.machine, x=row)
        row["p"] = 2
        numbers = stand.numbers("x")
        numbers["p"] = 3
        self.assertEqual(1, stand["x", "p"])

    def test_equality(self):
        self.assertTrue(Stand(self.machine, x={"p": 1}) == Stand(Machine(2, 2), y={}, x={"p": 1, "o": 0}))
        self.assertFalse(Stand(self.machine) == Stand(self.machine, y={"s": 1}))
        self.assertFalse(Stand(Machine(1, 2)) == Stand(Machine(2, 2)))
        self.assertFalse(Stand(Machine(1, 2)) == Stand(Machine(1, 3)))
        for value in any_values():
            if not isinstance(value, Stand):
                self.assertFalse(Stand(Machine()) == value)

    def test_texts(self):
        stand = Stand(Machine(2, 1), x={"p": 3, "z0": 10, "s": -4})
        self.assertEqual("machine 2 1 x 3 10 0 -4 y 0 0 0 0", str(stand))
        self.check_no_texts(Stand.read)
        for text, word in {
            "machine 1 1": 3, "machine 1 1 x": 4, "machine 1 1 x 0 0 0": 7, "machine 1 1 x 0 0 0 0 0": 8,
            "machine 1 1 y 0 0 0 0": 3, "machine 2 1 x 0 0 0 0": 8, "machine 2 1 x 0 0 0 0 x 0 0 0 0": 8, "machine 9": 1,
            "machine 1 1 x 0 -0 0 0": 5, "machine 1 1 x 0 00 0 0": 5, "machine 1 1 x 0 +1 0 0": 5, "x 0 0 0 0": 0,
            "machine 1 1 x 0 0 0 0 ": 8, "machine 1 1 x 0 0 0 1" + "0" * 60: 7, "machine 1 1 x " + "5" * 5000 + " 0 0 0": 4,
            "machine 1 1  x 0 0 0 0": 3, "machine 1 1 x 0 0 0 0\n": 7,
        }.items():
            self.check_text(Stand.read, text, word)
        rows = [["0"] * many for many in range(4, 8)]
        tails = [[]] + [["y", *row] for row in rows] + [["y", *row, "w", *row] for row in rows] + [["w", *row] for row in rows]
        heads = [[], ["x"], ["1", "x"], ["1", "1", "x"], ["machine", "1", "1", "x"]]
        endings = [head + ["0"] * many + tail for head in heads for many in range(8) for tail in tails]
        self.check_wrong_texts(Stand.read, str(stand), ["", "x", "y", "7", "machine"], endings)

    def test_methods_stand_in_the_class(self):
        for name in "__init__ __getitem__ __iter__ __eq__ __str__ numbers with_number with_positions read".split():
            self.assertIn(name, vars(Stand))


if __name__ == "__main__":
    unittest.main()
