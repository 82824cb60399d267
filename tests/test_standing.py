import itertools
import random
import unittest

from kinds import Checks, any_values, is_integer, wrong_values
from takenup.errors import BadMachine, BadWords
from takenup.machines import Machine
from takenup.standing import Standing, values_of

NAMES = ("reading", "unit", "zero", "way", "tool", "pace", "spindle")
VALUES = {
    "reading": ("far", "on"), "unit": ("fine", "coarse"), "zero": (0, 1, 2, 3), "way": ("rapid", "cut"),
    "tool": tuple(range(10)), "pace": tuple(range(100)), "spindle": ("still", "turning"),
}


def some_words(seed, many):
    chance = random.Random(seed)
    for _ in range(many):
        yield {name: chance.choice(VALUES[name]) for name in NAMES if chance.random() < 0.5}


def is_value(name):
    return lambda value: value is None or type(value) in (int, str) and value in VALUES[name]


class StandingTest(Checks, unittest.TestCase):
    def test_names(self):
        self.assertEqual(NAMES, Standing.NAMES)
        self.assertEqual(NAMES[:3], Standing.NUMBER_NAMES)
        self.assertEqual(NAMES[:4], Standing.NODE_NAMES)
        self.assertEqual(NAMES[3:], Standing.PLAIN_NAMES)

    def test_values_and_attributes(self):
        for table in some_words(1, 200):
            one = Standing(**table)
            pairs = [(name, table[name]) for name in NAMES if name in table]
            for name in NAMES:
                self.assertEqual(table.get(name), getattr(one, name))
                self.assertEqual(table.get(name), one[name])
            self.assertEqual(pairs, list(one))
            self.assertEqual(len(pairs), len(one))
            self.assertIs(bool(pairs), bool(one))
            self.assertEqual(tuple(name for name, _ in pairs), one.said)
            self.assertIs(len(pairs) == 7, one.is_full)
            self.assertEqual({None: None, "fine": 5, "coarse": 127}[table.get("unit")], one.length)
            for part, names in (
                (one.number_words, NAMES[:3]), (one.node_words, NAMES[:4]), (one.plain_words, NAMES[3:])
            ):
                self.assertIs(Standing, type(part))
                self.assertEqual([pair for pair in pairs if pair[0] in names], list(part))

    def test_each_bound(self):
        for name, values in VALUES.items():
            for value in values:
                self.assertEqual(value, Standing(**{name: value})[name])
        for name, most in (("zero", 3), ("tool", 9), ("pace", 99)):
            for value in (-1, most + 1):
                self.check_error(BadWords, {"part": name}, Standing, **{name: value})

    def test_wrong_values(self):
        for name in NAMES:
            for value in wrong_values(is_value(name)):
                self.check_error(BadWords, {"part": name}, Standing, **{name: value})

    def test_the_first_wrong_word_is_told(self):
        for one, other in itertools.combinations(NAMES, 2):
            self.check_error(BadWords, {"part": one}, Standing, **{other: True, one: []})

    def test_item_of_no_name(self):
        for value in wrong_values(lambda value: isinstance(value, str) and value in NAMES):
            self.check_error(BadWords, {"part": "name"}, lambda: Standing.first()[value])

    def test_equality(self):
        self.assertTrue(Standing(zero=1, reading="on") == Standing(reading="on", zero=1))
        self.assertFalse(Standing(zero=1) == Standing(zero=0))
        self.assertFalse(Standing(zero=1) == Standing(tool=1))
        self.assertFalse(Standing() == Standing(zero=0))
        self.assertTrue(Standing() == Standing())
        for value in any_values():
            if not isinstance(value, Standing):
                self.assertFalse(Standing() == value)

    def test_operators(self):
        tables = list(some_words(2, 60))
        for one, other in zip(tables, tables[1:]):
            first, second = Standing(**one), Standing(**other)
            self.assertEqual(Standing(**{**one, **other}), first | second)
            both = {name: one[name] for name in one if name in other and one[name] == other[name]}
            self.assertEqual(Standing(**both), first & second)
            rest = {name: one[name] for name in one if name not in other}
            self.assertEqual(Standing(**rest), first - second)
            self.assertIs(len(both) == len(one), first.is_part_of(second))
            self.assertTrue(first.is_part_of(first) and (first & second).is_part_of(second))
            self.assertTrue(Standing().is_part_of(first))
            self.assertEqual((one, other), (dict(first), dict(second)))

    def test_operators_of_other_values(self):
        one = Standing.first()
        for value in wrong_values(lambda value: isinstance(value, Standing)):
            for work in (one.is_part_of, lambda other: one & other, lambda other: one - other, lambda other: one | other):
                self.check_error(BadWords, {"part": "other"}, work, value)

    def test_with_word(self):
        one = Standing.first()
        self.assertEqual("on", one.with_word("reading", "on").reading)
        self.assertEqual(one - Standing(pace=3), one.with_word("pace", None))
        self.assertEqual(Standing(tool=7), Standing().with_word(name="tool", value=7))
        self.assertEqual(Standing.first(), one)
        for name in wrong_values(lambda value: isinstance(value, str) and value in NAMES):
            self.check_error(BadWords, {"part": "name"}, one.with_word, name, [])
        for name in NAMES:
            for value in wrong_values(is_value(name)):
                self.check_error(BadWords, {"part": name}, one.with_word, name, value)

    def test_fits(self):
        for zeros in range(1, 5):
            machine = Machine(1, zeros)
            self.assertIs(True, Standing(tool=9).fits(machine))
            for zero in range(4):
                self.assertIs(zero < zeros, Standing(zero=zero).fits(machine))
        for value in wrong_values(lambda value: isinstance(value, Machine)):
            self.check_error(BadMachine, {"part": "machine"}, Standing().fits, value)

    def test_fillings(self):
        machine = Machine(2, 3)
        for table in some_words(3, 40):
            one = Standing(**table)
            if not one.fits(machine):
                continue
            rows = [
                [table[name]] if name in table else values_of(name, machine) for name in NAMES[:3]
            ]
            expected = [
                Standing(**{**table, **dict(zip(NAMES[:3], row))}) for row in itertools.product(*rows)
            ]
            self.assertEqual(expected, list(one.fillings(machine)))
        self.assertEqual([Standing.first()], list(Standing.first().fillings(machine)))
        self.assertEqual(16, len(list(Standing().fillings(Machine(1, 4)))))

    def test_fillings_of_wrong_machines(self):
        for value in wrong_values(lambda value: isinstance(value, Machine)):
            self.check_error(BadMachine, {"part": "machine"}, Standing(zero=3).fillings, value)
        self.check_error(BadWords, {"part": "zero"}, Standing(zero=1).fillings, Machine(1, 1))

    def test_first(self):
        self.assertEqual("far fine zero 0 rapid tool 0 pace 0 still", str(Standing.first()))
        self.assertTrue(Standing.first().is_full)

    def test_values_of(self):
        for name, values in VALUES.items():
            for zeros in range(1, 5):
                expected = values[:zeros] if name == "zero" else values
                self.assertEqual(expected, values_of(name, Machine(1, zeros)))
        for value in wrong_values(lambda value: isinstance(value, str) and value in NAMES):
            self.check_error(BadWords, {"part": "name"}, values_of, value, None)
        for value in wrong_values(lambda value: isinstance(value, Machine)):
            self.check_error(BadMachine, {"part": "machine"}, values_of, "way", value)

    def test_texts(self):
        self.assertEqual("far zero 1 cut pace 40", str(Standing(reading="far", zero=1, way="cut", pace=40)))
        self.assertEqual("-", str(Standing()))
        for table in some_words(4, 300):
            self.check_reads(Standing.read, Standing(**table))
        self.check_no_texts(Standing.read)
        for text, word in {
            " ": 0, "far ": 1, " far": 0, "far far": 1, "on far": 1, "fine far": 1, "zero": 1, "zero 4": 1, "zero -1": 1,
            "tool 10": 1, "pace 100": 1, "pace 007": 1, "zero zero": 1, "zero 1 zero 1": 2, "- -": 1, "far -": 1,
            "- far": 1, "cut\n": 0, "tool\t1": 0, "pace " + "1" * 60: 1, "still tool 3": 1, "x 1": 0, "5": 0,
            "zero 1 1": 2, "far  fine": 1, "pace 5 tool 1": 2,
        }.items():
            self.check_text(Standing.read, text, word)

    def test_wrong_texts(self):
        words = ["", "far", "fine", "zero", "1", "9", "-", "turning", "x"]
        endings = [[], ["0"], ["-"], ["far"]]
        for text in ("far fine zero 1 cut tool 3 pace 44 turning", "on zero 0", "coarse rapid pace 9", "-", "tool 2 still"):
            self.check_wrong_texts(Standing.read, text, words, endings)

    def test_methods_stand_in_the_class(self):
        for name in (
            "__init__ __getitem__ __iter__ __len__ __eq__ __or__ __and__ __sub__ __str__ is_part_of with_word fits"
            " fillings first read"
        ).split():
            self.assertIn(name, vars(Standing))
        self.assertTrue(is_integer(Standing(zero=1).zero))


if __name__ == "__main__":
    unittest.main()
