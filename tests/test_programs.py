import random
import unittest

import ways
from kinds import Checks, any_values, is_integer, random_programs, wrong_values
from takenup.blocks import Block, Move
from takenup.errors import BadBlock, BadProgram, NoPlace, TooMany
from takenup.items import Round, Skip, Told
from takenup.programs import Program

ONE, TWO = Block(None, Move(x=1)), Block(None, Move(x=2))
ITEMS = (Block, Skip, Round, Told)


def row_of(many):
    return Program(*[Block(None, Move(x=at)) for at in range(many)])


class ProgramsTest(Checks, unittest.TestCase):
    def test_example(self):
        path = Program.read("x 0 ; on ; round ( x 4 ; skip ( here x 0 ) ) ; far x 0")
        told = [path.starts, [path.after(place) for place in range(6)], path.shape]
        after = [(1,), (2,), (2, 3, 4), (2, 4), (5,), ()]
        self.assertEqual([(0,), after, "b ; b ; round ( b ; skip ( b ) ) ; b"], told)

    def test_methods_stand_in_the_class(self):
        for name in (
            "__init__ __len__ __iter__ __getitem__ __contains__ __add__ __mul__ __eq__ __str__ after inner block_at"
            " with_block sites items_from read"
        ).split():
            self.assertIn(name, vars(Program))

    def test_attributes(self):
        told = Told(2, TWO)
        program = Program(ONE, Skip(Round(told, ONE)), TWO)
        self.assertEqual((ONE, Skip(Round(told, ONE)), TWO), program.members)
        self.assertEqual((ONE, told, ONE, TWO), program.steps)
        self.assertEqual([ONE, told, ONE, TWO], list(program))
        self.assertEqual(4, len(program))
        self.assertEqual(4, program.end)
        self.assertEqual((ONE, TWO, ONE, TWO), program.blocks)
        self.assertEqual([ONE, told, ONE, TWO], [program[place] for place in range(4)])
        for value in any_values():
            self.assertIs(value == ONE, value in program)
        self.assertIn(Block(None, Move(x=2)), program)
        self.assertNotIn(told, program)
        self.assertEqual(40, Program.STEPS)

    def test_wrong_items(self):
        self.check_error(BadProgram, {"part": "items"}, Program)
        for value in wrong_values(lambda value: isinstance(value, ITEMS)):
            self.check_error(BadProgram, {"part": "items"}, Program, value)
            self.check_error(BadProgram, {"part": "items"}, Program, *[ONE] * 41, value)
        self.check_error(BadProgram, {"part": "items"}, Program, [ONE])
        self.check_error(BadProgram, {"part": "items"}, Program, Program(ONE))

    def test_number_of_steps(self):
        many = {"what": "steps", "most": 40}
        self.assertEqual(40, len(row_of(40)))
        self.check_error(TooMany, many, Program, *[ONE] * 41)
        self.check_error(TooMany, many, Program, Skip(*[ONE] * 20), Round(*[ONE] * 20), ONE)
        self.assertEqual(40, len(Program(*[Told(2, *[ONE] * 12)] * 40)))

    def test_items_and_places_of_wrong_values(self):
        program = Program(ONE, Told(2, TWO))
        for value in wrong_values(lambda value: is_integer(value) and 0 <= value < 2):
            self.check_error(NoPlace, {"place": value}, lambda: program[value])
            self.check_error(NoPlace, {"place": value}, program.inner, value)
            self.check_error(NoPlace, {"place": value}, program.block_at, value, None)
            self.check_error(NoPlace, {"place": value}, program.with_block, value, None, None)
            if not (is_integer(value) and value == 2):
                self.check_error(NoPlace, {"place": value}, program.after, value)
        self.assertEqual((), program.after(2))

    def test_starts_and_next_places_beside_plain_ways(self):
        small = [program for program in random_programs(21, 500, depth=4) if ways.is_small(program)]
        self.assertGreater(len(small), 300)
        passable = 0
        for program in small:
            starts, nexts = ways.starts_and_nexts(program)
            self.assertEqual(starts, program.starts)
            self.assertEqual(nexts, [program.after(place) for place in range(len(program) + 1)])
            passable += program.end in starts
        self.assertGreater(passable, 20)

    def test_starts_and_next_places_of_passable_groups(self):
        program = Program.read("round ( skip ( x 1 ; x 2 ) ; skip ( x 3 ) ) ; skip ( x 4 )")
        self.assertEqual((0, 2, 3, 4), program.starts)
        after = [(1,), (0, 2, 3, 4), (0, 2, 3, 4), (4,), ()]
        self.assertEqual(after, [program.after(place) for place in range(5)])
        program = Program.read("skip ( x 1 ) ; round ( x 2 ) ; skip ( x 3 )")
        self.assertEqual((0, 1), program.starts)
        self.assertEqual((1, 2, 3), program.after(1))

    def test_inside(self):
        program = Program(ONE, Told(2, ONE, Told(3, TWO, ONE), TWO), Skip(Told(4, TWO)))
        self.assertEqual([()], list(program.inner(0)))
        self.assertEqual([(0,), (1, 0), (1, 1), (2,)], list(program.inner(1)))
        self.assertEqual([(0,)], list(program.inner(2)))
        sites = [(0, ()), (1, (0,)), (1, (1, 0)), (1, (1, 1)), (1, (2,)), (2, (0,))]
        self.assertEqual(sites, list(program.sites()))
        self.assertEqual(list(program.blocks), [program.block_at(place, *inside) for place, inside in sites])

    def test_wrong_inside(self):
        program = Program(ONE, Told(2, ONE, Told(3, TWO, ONE)))
        wrong = [(0, (0,)), (1, ()), (1, (1,)), (1, (1, 2)), (1, (0, 0)), (1, (1, 0, 0)), (1, (2,)), (1, (-1,))]
        wrong.extend((1, (value,)) for value in wrong_values(lambda value: is_integer(value) and value in (0, 1)))
        wrong.extend((1, (1, value)) for value in wrong_values(lambda value: is_integer(value) and value in (0, 1)))
        wrong.extend((0, (value,)) for value in any_values())
        for place, inside in wrong:
            self.check_error(BadProgram, {"part": "inside"}, program.block_at, place, *inside)
            self.check_error(BadProgram, {"part": "inside"}, program.with_block, place, None, *inside)

    def test_with_block(self):
        other = Block(None, Move(x=99))
        for program in random_programs(22, 80, depth=4):
            before = str(program)
            for at, (place, inside) in enumerate(list(program.sites())):
                changed = program.with_block(place, other, *inside)
                self.assertEqual(program.shape, changed.shape)
                expected = list(program.blocks)
                expected[at] = other
                self.assertEqual(expected, list(changed.blocks))
                self.assertEqual(other, changed.block_at(place, *inside))
            self.assertEqual(before, str(program))
        for value in wrong_values(lambda value: isinstance(value, Block)):
            self.check_error(BadBlock, {"part": "block"}, Program(ONE).with_block, 0, value)

    def test_add(self):
        one, other = Program(ONE, Skip(TWO)), Program(Round(ONE))
        self.assertEqual(Program(ONE, Skip(TWO), Round(ONE)), one + other)
        self.assertEqual((2, 1), (len(one), len(other)))
        for value in wrong_values(lambda value: isinstance(value, Program)):
            self.check_error(BadProgram, {"part": "other"}, lambda: row_of(40) + value)
        self.assertEqual(40, len(row_of(20) + row_of(20)))
        self.check_error(TooMany, {"what": "steps", "most": 40}, lambda: row_of(20) + row_of(21))

    def test_times(self):
        one = Program(ONE, Skip(TWO))
        self.assertEqual(Program(ONE, Skip(TWO), ONE, Skip(TWO), ONE, Skip(TWO)), one * 3)
        self.assertEqual(one, one * 1)
        self.assertEqual(40, len(Program(ONE) * 40))
        self.check_error(TooMany, {"what": "steps", "most": 40}, lambda: one * 21)
        for value in wrong_values(lambda value: is_integer(value) and 1 <= value <= 40):
            self.check_error(BadProgram, {"part": "times"}, lambda: one * value)

    def test_items_from(self):
        program = Program(ONE, Skip(TWO, ONE), Round(TWO))
        self.assertEqual(program, program.items_from(0, 3))
        self.assertEqual(Program(Skip(TWO, ONE)), program.items_from(1, 2))
        self.assertEqual(Program(ONE), program.items_from(0, 1))
        self.assertEqual(Program(Skip(TWO, ONE), Round(TWO)), program.items_from(low=1, high=3))
        wrong = [(0, 4), (1, 1), (2, 1), (-1, 2), (3, 3), (3, 4), (0, 0), (True, 2), (0, True)]
        wrong.extend((value, 3) for value in wrong_values(lambda value: is_integer(value) and 0 <= value < 3))
        wrong.extend((0, value) for value in wrong_values(lambda value: is_integer(value) and 0 < value <= 3))
        for low, high in wrong:
            self.check_error(BadProgram, {"part": "items"}, program.items_from, low, high)

    def test_equality(self):
        programs = [Program(ONE), Program(TWO), Program(ONE, ONE), Program(Skip(ONE)), Program(Told(1, ONE))]
        for at, one in enumerate(programs):
            for to, other in enumerate(programs):
                self.assertIs(at == to, one == other)
            for value in any_values():
                if not isinstance(value, Program):
                    self.assertFalse(one == value)
        self.assertTrue(Program(ONE) == Program(Block(None, Move(x=1))))

    def test_shape(self):
        program = Program.read("x 0 ; told 7 ( x 1 ; told 2 ( far ) ) ; skip ( round ( - ) )")
        self.assertEqual("b ; told 7 ( b ; told 2 ( b ) ) ; skip ( round ( b ) )", program.shape)
        self.assertEqual(program.shape, program.with_block(0, Block()).shape)


class ProgramTextsTest(Checks, unittest.TestCase):
    def test_example(self):
        self.check_text(Program.read, "round ( x 4", 4)

    def test_random_programs(self):
        for program in random_programs(23, 300, depth=6, axes=3, zeros=4, most=10 ** 12, items=4):
            self.check_reads(Program.read, program)

    def test_bounds_that_hold(self):
        deep = "round ( " * 4 + "told 2 ( told 2 ( x 1 ) )" + " )" * 4
        for text in (
            " ; ".join(["x 1"] * 40), "skip ( " * 6 + "x 1" + " )" * 6, deep, "told 1000000000000 ( x 1 )",
            "told 2 ( " + " ; ".join(["-"] * 12) + " )", "told 2 ( x 1 ; told 2 ( " + " ; ".join(["-"] * 11) + " ) )",
            " ; ".join(["told 3 ( x 1 ; x 2 )"] * 40), "x " + "9" * 60, "x -" + "9" * 60,
        ):
            self.assertEqual(text, str(Program.read(text)))

    def test_wrong_values_and_texts(self):
        self.check_no_texts(Program.read)
        forty = " ; ".join(["x 1"] * 40)
        for text, word in {
            "x 1 ;": 3, "x 1 ; ": 3, "; x 1": 0, "x 1 ; ; x 2": 3, "x 1 )": 2, "( x 1 )": 0, "x 1  ; x 2": 2, "x": 1,
            "x ; x 1": 1, "skip": 1, "skip x 1": 1, "skip (": 2, "skip ( )": 2, "skip ( x 1": 4, "skip ( x 1 ;": 5,
            "skip ( x 1 ; )": 5, "skip ( x 1 ) x 2": 5, "skip ( x 1 ) )": 5, "skip ( x 1 ) ;": 6, "skip 2 ( x 1 )": 1,
            "told": 1, "told (": 1, "told 0 ( x 1 )": 1, "told 1000000000001 ( x 1 )": 1, "told 3": 2, "told -1 ( x 1 )": 1,
            "told 03 ( x 1 )": 1, "told 3 x 1": 2, "told 2 ( skip ( x 1 ) )": 3, "told 2 ( x 1 ; round ( x 1 ) )": 6,
            "told 2 ( told 2 ( told 2 ( x 1 ) ) )": 6, "told " + "1" * 5000 + " ( x 1 )": 1, "x 1 far ; x 2": 2,
            "skip ( x ) ; x y": 3, "round ( far on )": 3, "Skip ( x 1 )": 0, "skip ( x 1 )\n": 4, "far skip ( x 1 )": 1,
            "told 2 ( x 1 ; told 2 ( skip": 9, "x 1;x 2": 1, "x 1 ;  x 2": 3, "told 2 ( x )": 4,
            forty + " ; x 1": 120, forty + " ; skip ( x 1 )": 122, forty + " ; told 2 ( x 1 )": 120, forty + " ;": 120,
            forty + " ; x one": 120, forty + " ; )": 120,
            "skip ( " * 7 + "x 1" + " )" * 7: 12, "skip ( " * 6 + "told 2 ( x 1 )" + " )" * 6: 12,
            "skip ( " * 5 + "told 2 ( told 2 ( x 1 ) )" + " )" * 5: 13,
            "told 2 ( " + " ; ".join(["-"] * 13) + " )": 27, "told 2 ( " + " ; ".join(["-"] * 12) + " ; told 2 ( - ) )": 30,
            "told 2 ( told 2 ( " + " ; ".join(["-"] * 12) + " ) ; - )": 31,
            "told 2 ( " + " ; ".join(["-"] * 12) + " ; ) )": 27,
        }.items():
            self.check_text(Program.read, text, word)

    def test_counts_of_blocks_begin_anew(self):
        row = " ; ".join(["-"] * 12)
        text = f"told 2 ( {row} ) ; round ( told 2 ( {row} ) ; told 2 ( told 2 ( {row} ) ) )"
        self.assertEqual(text, str(Program.read(text)))

    def test_wrong_texts(self):
        words = ["", "x", "5", ";", "(", ")", "skip", "told", "far", "-"]
        tails = [[], ["0"], ["-"], ["x", "0"], ["x"], ["(", "-"], ["1", "(", "-"], [";", "-"]]
        closings = [[], [")"], [")", ")"], [")", ")", ")"]]
        endings = [tail + closing for tail in tails for closing in closings]
        for text in (
            "x 1 ; skip ( far )", "told 3 ( x 1 ; told 2 ( - ) )", "round ( skip ( home x ) ; - ) ; here x 5",
            "skip ( told 2 ( on x 7 ) )",
        ):
            self.check_wrong_texts(Program.read, text, words, endings)

    def test_random_texts(self):
        chance = random.Random(24)
        tails = [[], ["0"], ["-"], ["x", "0"], ["x"], ["(", "-"], ["1", "(", "-"]]
        endings = [tail + [")"] * many for tail in tails for many in range(5)]
        for program in random_programs(25, 25, depth=3):
            parts = str(program).split(" ")
            if len(parts) > 30:
                continue
            chance.shuffle(parts)
            self.check_wrong_texts(Program.read, " ".join(parts), [";"], endings)


if __name__ == "__main__":
    unittest.main()
