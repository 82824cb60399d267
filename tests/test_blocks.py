import random
import unittest

from kinds import Checks, any_values, is_integer, random_block, wrong_values
from takenup.blocks import Block, Deed, Here, Home, Lay, Marking, Move, Named, Numbered, Storing, Touch
from takenup.errors import BadBlock, BadMachine, BadText, BadWords, NoAxis
from takenup.machines import Machine
from takenup.standing import Standing

NUMBERED = (Move, Here, Lay)
NAMED = (Home, Touch)


def is_axis(value):
    return isinstance(value, str) and value in ("x", "y", "w")


class DeedsTest(Checks, unittest.TestCase):
    def test_classes(self):
        self.assertEqual((Numbered, Marking), Move.__bases__)
        for kind in (Here, Lay):
            self.assertEqual((Numbered, Storing), kind.__bases__)
        for kind in NAMED:
            self.assertEqual((Named, Marking), kind.__bases__)
        self.assertEqual([(Deed,), (Deed,)], [Numbered.__bases__, Named.__bases__])
        self.assertEqual([(object,)] * 3, [Deed.__bases__, Marking.__bases__, Storing.__bases__])
        kinds = [kind.KIND for kind in (Move, Here, Lay, Home, Touch)]
        self.assertEqual(["move", "here", "lay", "home", "touch"], kinds)

    def test_methods_stand_in_their_classes(self):
        for kind in NUMBERED:
            for name in "__init__ __len__ __eq__ __str__ __getitem__ __iter__ renumbered".split():
                self.assertIn(name, vars(kind))
        for kind in NAMED:
            for name in "__init__ __len__ __eq__ __str__ renamed".split():
                self.assertIn(name, vars(kind))
        for name in "__init__ __or__ __sub__ __eq__ __str__ fits read".split():
            self.assertIn(name, vars(Block))

    def test_numbered(self):
        for kind in NUMBERED:
            deed = kind(w=10 ** 80, x=-3)
            self.assertEqual(("x", "w"), deed.axes)
            self.assertEqual(2, len(deed))
            self.assertEqual([("x", -3), ("w", 10 ** 80)], list(deed))
            self.assertEqual([-3, 10 ** 80], [deed["x"], deed["w"]])
            for value in any_values() + [0, 1]:
                if not (isinstance(value, str) and value in ("x", "w")):
                    self.check_error(NoAxis, {"axis": value}, lambda: deed[value])
            other = deed.renumbered(y=5)
            self.assertIs(kind, type(other))
            self.assertEqual([("y", 5)], list(other))
            self.assertEqual(("x", "w"), deed.axes)

    def test_wrong_numbers(self):
        for kind in NUMBERED:
            for make in (kind, kind(x=1).renumbered):
                self.check_error(BadBlock, {"part": "axes"}, make)
                self.check_error(BadBlock, {"part": "axes"}, make, q=1)
                self.check_error(BadBlock, {"part": "axes"}, make, x=None, z=1)
                self.check_error(BadBlock, {"part": "axes"}, make, X=1)
                for value in wrong_values(is_integer):
                    self.check_error(BadBlock, {"part": "x"}, make, x=value)
                    self.check_error(BadBlock, {"part": "w"}, make, w=value, x=1)
                    self.check_error(BadBlock, {"part": "y"}, make, w=value, y=value, x=1)

    def test_named(self):
        for kind in NAMED:
            deed = kind("w", "x", "y")
            self.assertEqual(("x", "y", "w"), deed.axes)
            self.assertEqual(3, len(deed))
            other = deed.renamed("w", "x")
            self.assertIs(kind, type(other))
            self.assertEqual(("x", "w"), other.axes)
            for make in (kind, deed.renamed):
                self.check_error(BadBlock, {"part": "axes"}, make)
                self.check_error(BadBlock, {"part": "axes"}, make, "x", "x")
                self.check_error(BadBlock, {"part": "axes"}, make, "xy")
                for value in wrong_values(is_axis):
                    self.check_error(BadBlock, {"part": "axes"}, make, value)
                    self.check_error(BadBlock, {"part": "axes"}, make, "x", value)

    def test_equality(self):
        deeds = [Move(x=1), Move(x=2), Move(y=1), Move(x=1, y=1), Here(x=1), Lay(x=1), Home("x"), Home("y"), Touch("x")]
        for at, one in enumerate(deeds):
            for to, other in enumerate(deeds):
                self.assertIs(at == to, one == other)
            for value in any_values():
                if not isinstance(value, Deed):
                    self.assertFalse(one == value)
        self.assertTrue(Move(x=1, w=2) == Move(w=2, x=1))
        self.assertTrue(Home("x", "w") == Home("w", "x"))

    def test_texts(self):
        texts = [str(Move(y=-1, x=7)), str(Here(x=0)), str(Lay(w=1, x=4)), str(Home("y", "x")), str(Touch("w"))]
        self.assertEqual(["x 7 y -1", "here x 0", "lay x 4 w 1", "home x y", "touch w"], texts)


class BlocksTest(Checks, unittest.TestCase):
    def test_example(self):
        block = Block(Standing(reading="far", zero=1), Move(y=-1, x=7))
        told = [str(block), str(block - Standing.first()), block.entries]
        self.assertEqual(["far zero 1 x 7 y -1", "x 7 y -1", ("far", "zero 1", "x", "y")], told)
        self.check_text(Block.read, "x 1 far", 2)

    def test_attributes(self):
        block = Block()
        self.assertEqual((Standing(), None, (), ()), (block.words, block.deed, block.axes, block.entries))
        words = Standing(way="cut", tool=3, pace=0, spindle="still", unit="coarse")
        block = Block(deed=Home("w", "x"), words=words)
        self.assertEqual((words, Home("x", "w"), ("x", "w")), (block.words, block.deed, block.axes))
        self.assertEqual(("coarse", "cut", "tool 3", "pace 0", "still", "x", "w"), block.entries)
        told = [(Block(None, deed).is_marking, Block(None, deed).is_storing)
                for deed in (Move(x=0), Home("x"), Touch("x"), Here(x=0), Lay(x=0), None)]
        self.assertEqual([(True, False)] * 3 + [(False, True)] * 2 + [(False, False)], told)

    def test_wrong_arguments(self):
        for value in wrong_values(lambda value: value is None or isinstance(value, Standing)):
            self.check_error(BadBlock, {"part": "words"}, Block, value)
            self.check_error(BadBlock, {"part": "words"}, Block, value, value)
        for value in wrong_values(lambda value: value is None or isinstance(value, Deed)):
            self.check_error(BadBlock, {"part": "deed"}, Block, None, value)

    def test_equality(self):
        blocks = [Block(), Block(Standing(zero=0)), Block(None, Move(x=1)), Block(Standing(zero=0), Move(x=1))]
        for at, one in enumerate(blocks):
            for to, other in enumerate(blocks):
                self.assertIs(at == to, one == other)
            for value in any_values():
                if not isinstance(value, Block):
                    self.assertFalse(one == value)
        self.assertTrue(Block(Standing()) == Block())

    def test_operators(self):
        block = Block(Standing(reading="far", zero=1), Move(x=7))
        words = Standing(zero=2, pace=4)
        self.assertEqual(Block(Standing(reading="far", zero=2, pace=4), Move(x=7)), block | words)
        self.assertEqual(Block(Standing(reading="far"), Move(x=7)), block - words)
        self.assertEqual("far zero 1 x 7", str(block))
        for value in wrong_values(lambda value: isinstance(value, Standing)):
            self.check_error(BadWords, {"part": "other"}, lambda: block | value)
            self.check_error(BadWords, {"part": "other"}, lambda: block - value)

    def test_fits(self):
        for axes in range(1, 4):
            for zeros in range(1, 5):
                machine = Machine(axes, zeros)
                for at, axis in enumerate(("x", "y", "w")):
                    for deed in (Move(**{axis: 1}), Here(**{axis: 1}), Touch(axis)):
                        self.assertIs(at < axes, Block(None, deed).fits(machine))
                        self.assertIs(at < axes and 2 < zeros, Block(Standing(zero=2), deed).fits(machine))
        for value in wrong_values(lambda value: isinstance(value, Machine)):
            self.check_error(BadMachine, {"part": "machine"}, Block().fits, value)

    def test_texts(self):
        self.assertEqual("-", str(Block()))
        chance = random.Random(5)
        for _ in range(400):
            self.check_reads(Block.read, random_block(chance, 3, 4, 10 ** 60 - 1))
        self.check_no_texts(Block.read)
        sixty = "9" * 60
        self.assertEqual(-int(sixty), Block.read(f"lay w -{sixty}").deed["w"])
        for text, word in {
            "x": 1, "x 1 x 2": 2, "y 1 x 2": 2, "here": 1, "here far": 1, "far here": 2, "home": 1, "home x x": 2,
            "home w x": 2, "home x 5": 2, "touch 5": 1, "x 1 here x 1": 2, "here x 1 y": 4, "- x 1": 1, "x 1 -": 2,
            "x +1": 1, "x 01": 1, "x -0": 1, "x 1" + sixty: 1, "x " + "8" * 6000: 1, "x -1" + sixty: 1, "x 1 ": 2,
            " x 1": 0, "x  1": 1, "move x 1": 0, "on far": 1, "far on x 1": 1, "x 1\n": 1, "x\t1": 0, "x 1.0": 1,
            "x \u0661": 1, "X 1": 0, ";": 0, "far ; x 1": 1, "zero": 1, "zero x 1": 1, "lay home": 1, "x - 1": 1,
        }.items():
            self.check_text(Block.read, text, word)

    def test_wrong_texts(self):
        words = ["", "far", "zero", "x", "w", "7", "here", "touch", "-", "turning"]
        endings = [[], ["0"], ["x", "0"], ["x"], ["y", "0"], ["y"], ["w", "0"], ["w"], ["-"], ["far"]]
        for text in ("far zero 1 x 7 y -1", "-", "here y 3 w 4", "on home x w", "cut tool 3 touch y", "pace 99", "lay x 0"):
            self.check_wrong_texts(Block.read, text, words, endings)

    def test_two_faults_in_a_text(self):
        with self.assertRaises(BadText) as caught:
            Block.read("far x one y two")
        self.assertEqual(2, caught.exception.word)


if __name__ == "__main__":
    unittest.main()
