import unittest

from kinds import any_values
from takenup.papers import Denial, Paper, fixed
from takenup.powers import Rounds


class PapersTest(unittest.TestCase):
    def test_example(self):
        told = [fixed([1, {"z0": [2], "o": None}]), bool(Denial("ring", 0)), Paper("most", [1]) == Paper("most", (1,))]
        self.assertEqual([(1, (("o", None), ("z0", (2,)))), False, True], told)

    def test_fixed_goes_all_the_way_in(self):
        self.assertEqual((), fixed([]))
        self.assertEqual((), fixed({}))
        self.assertEqual((((1, (("a", (2, ())),)),),), fixed(({1: {"a": [2, []]}},)))
        self.assertEqual(((-3, "c"), (2, "a"), (10, "b")), fixed({10: "b", 2: "a", -3: "c"}))
        self.assertEqual((("a", 1), ("b", 2), ("z", 3)), fixed({"z": 3, "a": 1, "b": 2}))
        self.assertIsInstance(fixed((1, [2]))[1], tuple)

    def test_fixed_leaves_other_values(self):
        for value in any_values():
            if not isinstance(value, (list, tuple, dict)):
                self.assertIs(value, fixed(value))

    def test_fixed_of_deep_values(self):
        value = 5
        for at in range(100):
            value = [value] if at % 3 == 0 else {"a": value} if at % 3 == 1 else (value,)
        deep = fixed(value)
        for at in range(99, -1, -1):
            self.assertIsInstance(deep, tuple)
            deep = deep[0][1] if at % 3 == 1 else deep[0]
        self.assertEqual(5, deep)

    def test_parts_are_copied(self):
        inner = {"a": [1]}
        rows = [1, inner]
        paper = Paper("most", rows, inner)
        rows.append(2)
        inner["a"].append(3)
        inner["b"] = 4
        self.assertEqual(((1, (("a", (1,)),)), (("a", (1,)),)), paper.parts)
        self.assertEqual("most", paper.word)

    def test_truth(self):
        self.assertIs(True, bool(Paper("most")))
        self.assertIs(False, bool(Denial("most")))
        self.assertIs(True, bool(Rounds(0, 1, 0)))
        self.assertIsInstance(Denial("x"), Paper)

    def test_equality(self):
        self.assertTrue(Paper("most", 1) == Denial("most", 1))
        self.assertTrue(Denial("most", 1) == Paper("most", 1))
        self.assertTrue(Denial("most", [1]) == Denial("most", (1,)))
        self.assertTrue(Paper("rounds", 1, 2, 3) == Rounds(1, 2, 3))
        self.assertTrue(Paper("most", 1) == Paper("most", True))
        self.assertFalse(Paper("most", 1) == Paper("least", 1))
        self.assertFalse(Paper("most", 1) == Paper("most", 2))
        self.assertFalse(Paper("most", 1) == Paper("most", 1, 1))
        self.assertTrue(Paper("most", 1) != Paper("most", 2))
        self.assertTrue(Paper("most", {"a": 1}) == Paper("most", [("a", 1)]))

    def test_a_paper_equals_nothing_else(self):
        paper = Paper("only", "here")
        for value in any_values():
            self.assertFalse(paper == value)
            self.assertFalse(value == paper)
        self.assertFalse(paper == ("only", ("here",)))

    def test_methods_stand_in_their_classes(self):
        for kind in (Paper, Denial):
            for name in ("__init__", "__eq__"):
                self.assertIn(name, vars(kind))


if __name__ == "__main__":
    unittest.main()
