import unittest

from kinds import Checks, any_values, is_integer, random_programs, wrong_values
from takenup.blocks import Block, Move
from takenup.errors import BadProgram
from takenup.items import Counted, Group, Round, Skip, Told

ONE, TWO = Block(None, Move(x=1)), Block(None, Move(x=2))
ITEMS = (Block, Skip, Round, Told)


def nested(kind, depth, inner=ONE):
    for _ in range(depth):
        inner = kind(inner)
    return inner


def told_twice(*items):
    return Told(2, *items)


def makers():
    """The ways to make each group from its items."""
    return [
        (Skip, ITEMS), (Round, ITEMS), (told_twice, (Block, Told)), (Skip(ONE).with_items, ITEMS),
        (Round(ONE).with_items, ITEMS), (Told(3, ONE).with_items, (Block, Told)),
    ]


class ItemsTest(Checks, unittest.TestCase):
    def test_classes(self):
        self.assertEqual([(Group,), (Group,), (Group, Counted)], [kind.__bases__ for kind in (Skip, Round, Told)])
        self.assertEqual(["skip", "round", "told"], [kind.KIND for kind in (Skip, Round, Told)])
        self.assertEqual((6, 10 ** 12, 12), (Group.DEPTH, Counted.MOST, Told.BLOCKS))
        for kind in (Skip, Round, Told):
            for name in "__init__ __len__ __iter__ __contains__ __eq__ __str__ with_items".split():
                self.assertIn(name, vars(kind))

    def test_attributes(self):
        inner = Told(4, TWO, ONE)
        for group in (Skip(ONE, inner, TWO), Round(ONE, inner, TWO), Told(3, ONE, inner, TWO)):
            self.assertEqual((ONE, inner, TWO), group.members)
            self.assertEqual([ONE, inner, TWO], list(group))
            self.assertEqual(3, len(group))
            self.assertEqual(2, group.depth)
            self.assertEqual((ONE, TWO, ONE, TWO), group.blocks)
            self.assertIn(TWO, group)
            self.assertIn(Block(None, Move(x=2)), group)
            for value in any_values():
                self.assertIs(value == ONE, value in group)
            self.assertNotIn(inner, group)
        self.assertEqual(3, Told(3, ONE).count)

    def test_items_are_copied(self):
        items = [ONE, TWO]
        group = Skip(*items)
        items.append(ONE)
        self.assertEqual((ONE, TWO), group.members)

    def test_with_items(self):
        for group in (Skip(ONE), Round(ONE), Told(5, ONE)):
            other = group.with_items(TWO, ONE)
            self.assertIs(type(group), type(other))
            self.assertEqual((TWO, ONE), other.members)
            self.assertEqual((ONE,), group.members)
        self.assertEqual(5, Told(5, ONE).with_items(TWO).count)

    def test_wrong_items(self):
        for make, kinds in makers():
            self.check_error(BadProgram, {"part": "items"}, make)
            for value in wrong_values(lambda value: isinstance(value, kinds)):
                self.check_error(BadProgram, {"part": "items"}, make, value)
                self.check_error(BadProgram, {"part": "items"}, make, ONE, value)
                self.check_error(BadProgram, {"part": "items"}, make, nested(told_twice, 2), value)

    def test_wrong_counts(self):
        for value in wrong_values(lambda value: is_integer(value) and 1 <= value <= 10 ** 12):
            self.check_error(BadProgram, {"part": "count"}, Told, value, ONE)
            self.check_error(BadProgram, {"part": "count"}, Told, value)
            self.check_error(BadProgram, {"part": "count"}, Told, value, None)
        self.assertEqual([1, 10 ** 12], [Told(count, ONE).count for count in (1, 10 ** 12)])
        self.check_error(BadProgram, {"part": "count"}, Told, 10 ** 12 + 1, ONE)

    def test_depth(self):
        for kind in (Skip, Round):
            self.assertEqual(6, nested(kind, 6).depth)
            self.check_error(BadProgram, {"part": "depth"}, kind, nested(kind, 6))
            self.check_error(BadProgram, {"part": "depth"}, kind, ONE, nested(Skip, 6))
            self.assertEqual(6, kind(nested(Skip, 3, nested(told_twice, 2))).depth)
            self.check_error(BadProgram, {"part": "depth"}, kind, nested(Round, 4, nested(told_twice, 2)))
        self.assertEqual(2, nested(told_twice, 2).depth)
        self.check_error(BadProgram, {"part": "depth"}, Told, 2, nested(told_twice, 2))
        self.check_error(BadProgram, {"part": "depth"}, Told, 2, nested(told_twice, 2), *[ONE] * 13)
        self.check_error(BadProgram, {"part": "depth"}, Told(1, ONE).with_items, ONE, nested(told_twice, 2))

    def test_blocks_of_a_told(self):
        self.assertEqual(12, len(Told(2, *[ONE] * 12).blocks))
        self.assertEqual(12, len(Told(2, ONE, Told(2, *[ONE] * 10), TWO).blocks))
        self.check_error(BadProgram, {"part": "blocks"}, Told, 2, *[ONE] * 13)
        self.check_error(BadProgram, {"part": "blocks"}, Told, 2, ONE, Told(2, *[ONE] * 10), TWO, ONE)
        self.check_error(BadProgram, {"part": "blocks"}, Told, 2, Told(2, *[ONE] * 7), Told(2, *[ONE] * 6))
        self.assertEqual(24, len(Skip(Told(2, *[ONE] * 12), Told(2, *[ONE] * 12)).blocks))

    def test_equality(self):
        groups = [
            Skip(ONE), Skip(TWO), Skip(ONE, ONE), Round(ONE), Told(1, ONE), Told(2, ONE), Told(2, TWO), Skip(Skip(ONE)),
        ]
        for at, one in enumerate(groups):
            for to, other in enumerate(groups):
                self.assertIs(at == to, one == other)
            for value in any_values():
                if not isinstance(value, Group):
                    self.assertFalse(one == value)
        self.assertTrue(Skip(Block(None, Move(x=1))) == Skip(ONE))

    def test_texts(self):
        self.assertEqual("skip ( x 1 ; - )", str(Skip(ONE, Block())))
        self.assertEqual("round ( x 1 ; told 7 ( x 2 ) )", str(Round(ONE, Told(7, TWO))))

    def test_depths_and_blocks_of_random_groups(self):
        def depth(item):
            return 0 if isinstance(item, Block) else 1 + max(depth(one) for one in item)

        def blocks(item):
            return [item] if isinstance(item, Block) else [block for one in item for block in blocks(one)]

        for program in random_programs(11, 60, depth=5):
            for item in program.members:
                if isinstance(item, Group):
                    self.assertEqual(depth(item), item.depth)
                    self.assertEqual(tuple(blocks(item)), item.blocks)


if __name__ == "__main__":
    unittest.main()
