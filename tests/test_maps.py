import itertools
import random
import unittest

from kinds import Checks, any_values, is_integer, wrong_values
from takenup.errors import BadMachine, BadMap, NoRegister
from takenup.machines import Machine
from takenup.maps import Shift
from takenup.sums import Sum


def random_shift(chance, zeros, one_to_one=False, most=100):
    machine = Machine(1, zeros)
    names = machine.registers[:-2]
    if one_to_one:
        sources = list(names)
        chance.shuffle(sources)
    else:
        sources = [chance.choice(machine.registers) for _ in names]
    return Shift(machine, {name: Sum(source, chance.randint(-most, most)) for name, source in zip(names, sources)})


def random_shifts(seed, many, one_to_one=False, most=100):
    chance = random.Random(seed)
    return [random_shift(chance, zeros, one_to_one, most) for _ in range(many) for zeros in range(1, 5)]


class ShiftsTest(Checks, unittest.TestCase):
    def test_attributes(self):
        shift = Shift(Machine(2, 2), {"z1": Sum("p", -10), "p": Sum("z0", 5)})
        self.assertEqual(("p", "z0", "z1", "o", "s"), shift.registers)
        pairs = [("p", Sum("z0", 5)), ("z0", Sum("z0")), ("z1", Sum("p", -10)), ("o", Sum("o")), ("s", Sum("s"))]
        self.assertEqual(pairs, list(shift))
        self.assertEqual([told for _, told in pairs], [shift[name] for name in shift.registers])
        self.assertEqual(Sum("p"), Shift(Machine(), None)["p"])
        self.assertEqual(Shift(Machine()), Shift(Machine(), {}))
        self.assertEqual(Shift(Machine(3, 1)), Shift.same(Machine(1, 1)))
        for value in wrong_values(lambda value: isinstance(value, str) and value in shift.registers):
            self.check_error(NoRegister, {"name": value}, lambda: shift[value])
        self.check_error(NoRegister, {"name": "z1"}, lambda: Shift(Machine(1, 1))["z1"])

    def test_wrong_arguments(self):
        for value in wrong_values(lambda value: isinstance(value, Machine)):
            self.check_error(BadMachine, {"part": "machine"}, Shift, value, 5)
            self.check_error(BadMachine, {"part": "machine"}, Shift.same, value)
        for value in wrong_values(lambda value: value is None or value == {}):
            self.check_error(BadMap, {"part": "table"}, Shift, Machine(), value)
        for value in wrong_values(lambda value: isinstance(value, Sum)):
            self.check_error(BadMap, {"part": "table"}, Shift, Machine(), {"p": value})
            self.check_error(BadMap, {"part": "table"}, Shift, Machine(), {"o": Sum("p"), "p": value})
        for key in (None, True, 0, "q", "z2", ("p",), ""):
            self.check_error(BadMap, {"part": "table"}, Shift, Machine(), {key: Sum("p")})
        self.check_error(BadMap, {"part": "table"}, Shift, Machine(), {"p": Sum("z2")})
        self.check_error(BadMap, {"part": "table"}, Shift, Machine(1, 1), {"s": Sum("z1")})
        for name in ("o", "s"):
            self.assertEqual(Shift(Machine()), Shift(Machine(), {name: Sum(name)}))
            for told in (Sum(name, 1), Sum("p"), Sum({"o": "s", "s": "o"}[name])):
                self.check_error(BadMap, {"part": "kept"}, Shift, Machine(), {name: told})

    def test_what_is_passed_is_copied(self):
        table = {"p": Sum("z0", 5)}
        shift = Shift(Machine(), table)
        table["p"] = Sum("o")
        table["z9"] = 5
        self.assertEqual("p=z0+5 z0=z0 z1=z1", str(shift))
        numbers = {"p": 1, "z0": 2, "z1": 3, "o": 4, "s": 5}
        behind = shift(numbers)
        self.assertEqual({"p": 1, "z0": 2, "z1": 3, "o": 4, "s": 5}, numbers)
        behind["p"] = 99
        self.assertEqual(7, shift(numbers)["p"])

    def test_call(self):
        shift = Shift.read("p=z0+5 z0=z1-1 z1=z1")
        behind = shift({"s": 5, "o": 4, "p": 1, "z0": 2, "z1": 3})
        self.assertEqual([("p", 7), ("z0", 2), ("z1", 3), ("o", 4), ("s", 5)], list(behind.items()))
        right = {"p": 1, "z0": 2, "z1": 3, "o": 4, "s": 5}
        for value in any_values() + [{**right, "z2": 1}, {**right, 3: 1}, {"p": 1, "z0": 2, "z1": 3, "o": 4, 5: 5}]:
            self.check_error(BadMap, {"part": "numbers"}, shift, value)
        for name in right:
            self.check_error(BadMap, {"part": "numbers"}, shift, {one: right[one] for one in right if one != name})
            for value in wrong_values(is_integer):
                self.check_error(BadMap, {"part": "numbers"}, shift, {**right, name: value})

    def test_join(self):
        chance = random.Random(51)
        for one, other in zip(random_shifts(52, 60), random_shifts(53, 60)):
            numbers = {name: chance.randint(-10 ** 40, 10 ** 40) for name in one.registers}
            self.assertEqual(other(one(numbers)), (one * other)(numbers))
            for name in one.registers:
                second = other[name]
                self.assertEqual(one[second.source] + second.number, (one * other)[name])
            self.assertEqual(one, one * Shift(Machine(3, len(one.registers) - 3)))
        for value in wrong_values(lambda value: isinstance(value, Shift)):
            self.check_error(BadMap, {"part": "other"}, lambda: Shift(Machine()) * value)
        self.check_error(BadMap, {"part": "other"}, lambda: Shift(Machine(1, 1)) * Shift(Machine(1, 2)))

    def test_invert(self):
        for shift in random_shifts(54, 30, one_to_one=True):
            same = Shift.same(Machine(1, len(shift.registers) - 3))
            self.assertTrue(shift.is_one_to_one)
            self.assertIsNone(shift.meeting())
            self.assertEqual([same, same], [shift * ~shift, ~shift * shift])
        for shift in random_shifts(55, 60):
            sources = [told.source for _, told in shift]
            self.assertIs(len(set(sources)) == len(sources), shift.is_one_to_one)
            meetings = [
                (shift.registers[at], shift.registers[to])
                for at, to in itertools.combinations(range(len(sources)), 2) if sources[at] == sources[to]
            ]
            self.assertEqual(meetings[0] if meetings else None, shift.meeting())
            if meetings:
                self.check_error(BadMap, {"part": "two"}, lambda: ~shift)

    def test_small_powers(self):
        for shift in random_shifts(56, 25) + random_shifts(57, 10, one_to_one=True):
            joined = Shift.same(Machine(1, len(shift.registers) - 3))
            for n in range(12):
                self.assertEqual(joined, shift.power(n))
                self.assertEqual(joined, shift ** n)
                if shift.is_one_to_one:
                    self.assertEqual(~joined, shift.power(-n))
                    self.assertEqual(~joined, shift ** -n)
                elif n > 0:
                    self.check_error(BadMap, {"part": "two"}, shift.power, -n)
                    self.check_error(BadMap, {"part": "two"}, lambda: shift ** -n)
                joined = joined * shift

    def test_great_powers_are_joined_of_parts(self):
        for shift in random_shifts(58, 10, most=10 ** 40) + random_shifts(59, 5, one_to_one=True):
            for one, other in ((10 ** 12, 7), (10 ** 60, 10 ** 12 + 1)):
                self.assertEqual(shift.power(one + other), shift.power(one) * shift.power(other))
                self.assertEqual(shift.power(one * 6), shift.power(one).power(6))
                if shift.is_one_to_one:
                    self.assertEqual(shift.power(other - one), shift.power(other) * shift.power(-one))
                    self.assertEqual(shift.power(-one), (~shift).power(one))

    def test_powers_of_no_integers(self):
        meeting = Shift.read("p=z0 z0=z0")
        for value in wrong_values(is_integer):
            self.check_error(BadMap, {"part": "power"}, meeting.power, value)
            self.check_error(BadMap, {"part": "power"}, lambda: meeting ** value)

    def test_pulled(self):
        shift = Shift.read("p=z0+5 z0=p-10 z1=p+1")
        self.assertEqual(("z0", "p", 15), shift.pulled("p", "z0"))
        self.assertEqual(("p", "p", -11), shift.pulled("z0", "z1"))
        self.assertEqual(("p", "o", 1), shift.pulled("z1", "o"))
        self.assertEqual(("z0", "z0", 0), shift.pulled("p", "p"))
        for value in wrong_values(lambda value: isinstance(value, str) and value in shift.registers):
            self.check_error(NoRegister, {"name": value}, shift.pulled, value, "z9")
            self.check_error(NoRegister, {"name": value}, shift.pulled, "p", value)

    def test_equality(self):
        self.assertTrue(Shift(Machine(1, 2)) == Shift(Machine(3, 2)))
        self.assertFalse(Shift(Machine(1, 2)) == Shift(Machine(1, 3)))
        self.assertFalse(Shift(Machine(1, 2)) == Shift(Machine(1, 2), {"p": Sum("p", 1)}))
        for value in any_values():
            if not isinstance(value, Shift):
                self.assertFalse(Shift(Machine()) == value)

    def test_texts(self):
        self.assertEqual("p=z0+5 z0=z0 z1=p-10", str(Shift(Machine(), {"p": Sum("z0", 5), "z1": Sum("p", -10)})))
        for shift in random_shifts(60, 40, most=10 ** 60 - 1):
            self.check_reads(Shift.read, shift)
        self.check_no_texts(Shift.read)
        for text, word in {
            "p=p": 1, "z0=z0": 0, "p=p z1=z1": 1, "p=p z0=z0 z2=z2": 2, "p=z1 z0=z0": 2, "p=z3 z0=z0 z1=z1 z2=z2": 4,
            "p=z1 z0=z0 o=o": 2, "p=p z0=z0 o=o": 2, "p=p z0=z0 z1=z1 z2=z2 z3=z3 z4=z4": 5, "p p z0=z0": 0, "p=": 0,
            "p=p+0 z0=z0": 0, "p=p=p z0=z0": 0, "p=p z0=z0 ": 2, " p=p z0=z0": 0, "p=p  z0=z0": 1, "p=p z0=z0\n": 1,
            "p=p z0=z0+1" + "0" * 60: 1, "p=z4 z0=z0": 0, "P=p z0=z0": 0, "p=+5 z0=z0": 0, "p=p z0=z0 z1=z2": 3,
            "z0=p p=z0": 0, "p=p z0=z0 p=p": 2, "=p z0=z0": 0,
        }.items():
            self.check_text(Shift.read, text, word)

    def test_wrong_texts(self):
        words = ["", "p=p", "z0=z0", "z1=p-10", "z2=z2", "z3=z1", "o=o"]
        endings = [[], *[[f"z{at}=z{at}" for at in range(low, 4)] for low in range(4)], ["p=p", "z0=z0"]]
        endings += [[f"z{at}=z{at}" for at in range(low, high)] for low in range(4) for high in range(low + 1, 4)]
        for text in ("p=z0+5 z0=z0 z1=p-10", "p=s-1 z0=o", "p=z3 z0=z2 z1=z1 z2=p z3=p"):
            self.check_wrong_texts(Shift.read, text, words, endings)

    def test_methods_stand_in_the_class(self):
        for name in (
            "__init__ __getitem__ __iter__ __call__ __mul__ __invert__ __pow__ __eq__ __str__ power meeting pulled same"
            " read"
        ).split():
            self.assertIn(name, vars(Shift))


if __name__ == "__main__":
    unittest.main()
