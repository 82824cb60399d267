import unittest

from kinds import Checks, any_values, is_integer, wrong_values
from takenup.errors import BadSum
from takenup.sums import Sum

NAMES = ("p", "z0", "z1", "z2", "z3", "o", "s")
NUMBERS = (0, 1, -1, 5, -10, 10 ** 40 + 7, -(10 ** 60 - 1), 10 ** 60 - 1)


class SumsTest(Checks, unittest.TestCase):
    def test_attributes(self):
        self.assertEqual(NAMES, Sum.NAMES)
        one = Sum("z1", -3)
        self.assertEqual(("z1", -3), (one.source, one.number))
        self.assertEqual(("o", 0), (Sum("o").source, Sum(source="o").number))

    def test_wrong_arguments(self):
        for value in wrong_values(lambda value: isinstance(value, str) and value in NAMES):
            self.check_error(BadSum, {"part": "source"}, Sum, value)
            self.check_error(BadSum, {"part": "source"}, Sum, value, None)
        for value in wrong_values(is_integer):
            self.check_error(BadSum, {"part": "number"}, Sum, "p", value)

    def test_add_and_subtract(self):
        for number in NUMBERS:
            one = Sum("z2", number)
            for n in NUMBERS:
                self.assertEqual(Sum("z2", number + n), one + n)
                self.assertEqual(Sum("z2", number - n), one - n)
            self.assertEqual(number, one.number)
        for value in wrong_values(is_integer):
            self.check_error(BadSum, {"part": "number"}, lambda: Sum("p") + value)
            self.check_error(BadSum, {"part": "number"}, lambda: Sum("p") - value)

    def test_apart(self):
        self.assertEqual(-7, Sum("o", 3).apart(Sum("o", 10)))
        self.assertEqual(0, Sum("o", 3).apart(Sum("o", 3)))
        self.assertIsNone(Sum("o", 3).apart(Sum("s", 3)))
        for value in wrong_values(lambda value: isinstance(value, Sum)):
            self.check_error(BadSum, {"part": "other"}, Sum("p").apart, value)

    def test_value_in(self):
        numbers = {"p": 5, "z0": -2, "more": None, 3: "x"}
        self.assertEqual([5, 8, -2], [Sum("p").value_in(numbers), Sum("p", 3).value_in(numbers), Sum("z0").value_in(numbers)])
        self.check_error(BadSum, {"part": "numbers"}, Sum("o").value_in, numbers)
        for value in wrong_values(lambda value: isinstance(value, dict)):
            self.check_error(BadSum, {"part": "numbers"}, Sum("o").value_in, value)
        for value in wrong_values(is_integer):
            self.check_error(BadSum, {"part": "numbers"}, Sum("o").value_in, {"o": value})

    def test_texts_of_long_numbers(self):
        """They are longer than Python writes an integer at once."""
        for digits in (17, 18, 19, 36, 37, 5000):
            self.assertEqual("z0+1" + "0" * digits, str(Sum("z0", 10 ** digits)))
            self.assertEqual("o-" + "9" * digits, str(Sum("o", 1 - 10 ** digits)))

    def test_order_and_equality(self):
        sums = [Sum(name, number) for name in NAMES for number in sorted(NUMBERS)]
        for at, one in enumerate(sums):
            for to, other in enumerate(sums):
                self.assertIs(at == to, one == other)
                self.assertIs(at != to, one != other)
                self.assertIs(at < to, one < other)
                self.assertIs(at <= to, one <= other)
                self.assertIs(at > to, one > other)
                self.assertIs(at >= to, one >= other)
        for value in wrong_values(lambda value: isinstance(value, Sum)):
            self.assertFalse(Sum("p") == value)
            self.assertFalse(value == Sum("p"))
            for work in (lambda: Sum("p") < value, lambda: Sum("p") <= value, lambda: Sum("p") > value):
                self.assertRaises(TypeError, work)
            self.assertRaises(TypeError, lambda: Sum("p") >= value)

    def test_texts(self):
        self.assertEqual(["z0+5", "p-10", "o"], [str(Sum("z0", 5)), str(Sum("p", -10)), str(Sum("o"))])
        for name in NAMES:
            for number in NUMBERS:
                self.check_reads(Sum.read, Sum(name, number))
        self.check_no_texts(Sum.read)
        sixty = "9" * 60
        for text, word in {
            "z4": 0, "z": 0, "q": 0, "p+0": 0, "p-0": 0, "p+": 0, "p-": 0, "p5": 0, "p+05": 0, "p+-5": 0, "p-+5": 0,
            "p++5": 0, "p--5": 0, "p +5": 1, "p ": 1, " p": 0, "p p": 1, "p+5 ": 1, "p+5\n": 0, "P+5": 0, "5": 0, "+5": 0,
            "z00": 0, "z0+1" + sixty: 0, "z0-1" + sixty: 0, "s+" + "7" * 5000: 0, "p+1.0": 0, "p+\u0661": 0, "z0+5p": 0,
            "z0z0": 0, "p+5+5": 0,
        }.items():
            self.check_text(Sum.read, text, word)

    def test_wrong_texts(self):
        for text in ("z0+5", "p-10", "o"):
            self.check_wrong_texts(Sum.read, text, ["", "p", "5", "+5"], [[], ["p"]])

    def test_methods_stand_in_the_class(self):
        for name in "__init__ __add__ __sub__ __eq__ __lt__ __le__ __gt__ __ge__ __str__ apart value_in read".split():
            self.assertIn(name, vars(Sum))
        self.assertTrue(any_values())


if __name__ == "__main__":
    unittest.main()
