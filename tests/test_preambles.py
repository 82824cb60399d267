import random
import unittest

from kinds import Checks, any_values, random_block, wrong_values
from plain_play import LENGTHS, do_block
from side_by_side import Symbol
from takenup.blocks import Block, Here, Home, Lay, Move, Touch
from takenup.errors import BadMachine, BadPreamble, BadStand, BadText, BadWords
from takenup.machines import Machine
from takenup.preambles import Preamble
from takenup.standing import Standing, values_of
from takenup.stands import Stand
from takenup.sums import Sum
from takenup.targets import Target

WIDE = Machine(3, 4)
TEXTS = ("far fine zero 0 rapid x 5 y -2 ; on coarse x 3 ; home w ; cut", "rapid touch x y ; on fine y 7", "nothing", "-")


def first_wrong(blocks):
    """The index of the first block that cannot stand, by the words of the document said once more; None without any."""
    said = {}
    for at, block in enumerate(blocks):
        if not isinstance(block, Block):
            return at
        said.update(dict(block.words))
        deed = block.deed
        if deed is None:
            continue
        if deed.KIND in ("here", "lay") or said.get("way") != "rapid":
            return at
        if deed.KIND == "move":
            if "reading" not in said or said["reading"] == "far" and "zero" not in said:
                return at
            if any(number != 0 for _, number in deed) and "unit" not in said:
                return at
    return None


def random_blocks(chance, many, axes=3, zeros=4):
    """Blocks, most of them without here and lay and with many words."""
    blocks = []
    for _ in range(many):
        block = random_block(chance, axes, zeros)
        while block.is_storing and chance.random() < 0.95:
            block = random_block(chance, axes, zeros)
        if chance.random() < 0.4:
            block = Block(Standing(**{
                name: chance.choice(values_of(name, Machine(1, zeros))) for name in Standing.NAMES
                if chance.random() < 0.6
            }) | Standing(way=chance.choice(["rapid", "rapid", "cut"])), block.deed)
        blocks.append(block)
    return blocks


def random_preambles(seed, many, axes=3, zeros=4, most=5):
    chance = random.Random(seed)
    preambles = []
    while len(preambles) < many:
        blocks = random_blocks(chance, chance.randint(0, most), axes, zeros)
        at = first_wrong(blocks)
        preambles.append(Preamble(*blocks[:at]))
    return preambles


def played(machine, blocks, stand, words):
    """Plays blocks with symbols or numbers for what registers hold, words being a dict in which some may be left."""
    numbers = {axis: stand.numbers(axis) if isinstance(stand, Stand) else dict(stand[axis]) for axis in machine.axes}
    words = dict(words)
    for block in blocks:
        words.update(dict(block.words))
        told = {"reading": "far", "unit": "fine", "zero": 0, **words}
        do_block(told, numbers, block)
    return numbers, words


class PreamblesTest(Checks, unittest.TestCase):
    def test_definite(self):
        chance = random.Random(401)
        found = []
        for _ in range(3000):
            blocks = random_blocks(chance, chance.randint(1, 4))
            at = first_wrong(blocks)
            found.append(at)
            if at is None:
                self.assertEqual(tuple(blocks), Preamble(*blocks).blocks)
            else:
                self.check_error(BadPreamble, {"at": at}, Preamble, *blocks)
        self.assertTrue({None, 0, 1, 2, 3} <= set(found))
        self.assertGreater(found.count(None), 300)

    def test_each_bound_of_definite(self):
        for text, at in (
            ("rapid home x", None), ("home x", 0), ("cut home x", 0), ("cut ; rapid touch y", None), ("rapid ; cut home x", 1),
            ("rapid home x ; cut ; home x", 2), ("rapid ; - ; touch w", None), ("far zero 0 rapid x 0", None), ("zero 0 rapid x 0", 0),
            ("far rapid x 0", 0), ("far zero 0 x 0", 0), ("far zero 0 rapid x 5", 0), ("far fine zero 0 rapid x 5", None),
            ("far zero 0 rapid x 0 y 5", 0), ("on rapid x 0", None), ("on rapid x 1", 0), ("on coarse rapid x 1", None),
            ("on zero 0 rapid ; far x 0", None), ("on rapid ; far x 0", 1), ("far zero 1 rapid ; on x 0 ; unit", None),
            ("far coarse zero 1 rapid ; x 1 ; on x 1 ; far x 1 ; cut", None), ("far fine rapid ; zero 3 x 1", None),
            ("here x 0", 0), ("rapid home x ; far fine zero 0 here x 0", 1), ("lay x 0", 0), ("cut", None), ("-", None),
            ("tool 3 pace 40 turning", None), ("rapid home x ; zero 0 x 1", 1),
        ):
            blocks = [Block.read(part) for part in text.split(" ; ") if part != "unit"]
            self.assertEqual(at, first_wrong(blocks), text)
            if at is None:
                self.assertEqual(tuple(blocks), Preamble(*blocks).blocks)
            else:
                self.check_error(BadPreamble, {"at": at}, Preamble, *blocks)

    def test_any_values(self):
        self.assertEqual((), Preamble().blocks)
        for value in wrong_values(lambda value: isinstance(value, Block)):
            self.check_error(BadPreamble, {"at": 0}, Preamble, value)
            self.check_error(BadPreamble, {"at": 1}, Preamble, Block(), value, Block(None, Here(x=1)))
            self.check_error(BadPreamble, {"at": 0}, Preamble, Block(None, Home("x")), value)
        for deed in (Here(x=0), Lay(x=0)):
            self.check_error(BadPreamble, {"at": 1}, Preamble, Block(Standing.first()), Block(None, deed))

    def test_entries(self):
        preamble = Preamble.read("far fine zero 0 rapid x 5 y -2 ; zero 0 pace 20 ; - ; touch x w")
        self.assertEqual((
            "far", "fine", "zero 0", "rapid", "x", "y", "zero 0", "pace 20", "x", "w",
        ), preamble.entries)
        self.assertEqual(10, len(preamble))
        self.assertEqual([Block.read("far fine zero 0 rapid x 5 y -2"), Block.read("zero 0 pace 20"), Block(), Block(None, Touch("x", "w"))], list(preamble))
        self.assertIsInstance(preamble.blocks, tuple)
        for name in ("__init__", "__len__", "__eq__", "__iter__", "__add__", "fits", "outcome", "stages", "made", "__str__", "read"):
            self.assertIn(name, vars(Preamble))
        for one in random_preambles(402, 100):
            self.assertEqual(sum((block.entries for block in one.blocks), ()), one.entries)
            self.assertEqual((len(one.entries), len(one.entries) > 0), (len(one), bool(one)))
            self.assertEqual(list(one.blocks), list(one))

    def test_truth(self):
        self.assertFalse(Preamble())
        self.assertFalse(Preamble(Block(), Block()))
        self.assertTrue(Preamble(Block(Standing(pace=0))))

    def test_equality(self):
        one = Preamble.read("rapid home x ; cut")
        self.assertTrue(one == Preamble(*list(one)) and not one != Preamble(*one.blocks))
        for other in (Preamble.read("rapid home x"), Preamble.read("cut ; rapid home x"), Preamble.read("rapid ; home x ; cut"), Preamble()):
            self.assertFalse(one == other)
        self.assertFalse(Preamble() == Preamble(Block()))
        for value in any_values() + [one.blocks, list(one.blocks), str(one)]:
            self.assertFalse(one == value)

    def test_plus(self):
        preambles = random_preambles(403, 60)
        for one, other in zip(preambles, preambles[1:]):
            both = one + other
            self.assertEqual(one.blocks + other.blocks, both.blocks)
            self.assertEqual(len(one) + len(other), len(both))
            self.assertIs(Preamble, type(both))

    def test_text(self):
        self.assertEqual("nothing", str(Preamble()))
        self.assertEqual("-", str(Preamble(Block())))
        self.assertEqual("- ; rapid home x y", str(Preamble(Block(), Block(Standing(way="rapid"), Home("y", "x")))))
        self.assertEqual(Preamble(), Preamble.read("nothing"))
        self.assertEqual(Preamble(Block()), Preamble.read("-"))
        for preamble in random_preambles(404, 100):
            self.check_reads(Preamble.read, preamble)
        self.check_reads(Preamble.read, Preamble.read("on fine rapid x " + "9" * 60 + " ; y -" + "9" * 60))

    def test_texts_of_blocks_that_are_no_preamble(self):
        for text, at in (
            ("x 1", 0), ("rapid ; here x 0", 1), ("home x ; rapid", 0), ("- ; - ; lay x 5", 2), ("far rapid x 0", 0),
            ("rapid home x ; cut touch x", 1),
        ):
            self.check_error(BadPreamble, {"at": at}, Preamble.read, text)

    def test_wrong_texts(self):
        self.check_no_texts(Preamble.read)
        for text, word in (
            ("nothing ; -", 1), ("nothing nothing", 1), ("- nothing", 1), ("here x 0 ; here", 5), ("x 1 ; ", 3), ("x 1 ;", 3),
            ("; x 1", 0), ("x 1 ; nothing", 3), ("x 1 ; ; x 2", 3), ("x 1 far", 2), ("skip ( x 1 )", 0), ("rapid home", 2),
            ("x " + "9" * 61, 1), ("rapid home x x", 3), ("- -", 1), ("zero 4", 1), ("pace 100 ; x 1", 1), (" nothing", 0), ("far fine on", 2),
        ):
            self.check_text(Preamble.read, text, word)

    def test_texts_a_little_beside(self):
        words = ["far", "x", "5", ";", "-", "nothing", "rapid", "here", "zero", "0", "", "home"]
        endings = [[], ["0"], ["x", "0"], ["0", "x", "0"], ["-"], [";", "-"], ["x"], ["0", ";", "-"], ["5", "y", "1"]]

        def read(text):
            """Reads also blocks that are no preamble, which plays no part in which words can stand."""
            try:
                return Preamble.read(text)
            except BadPreamble:
                return " ; ".join(str(Block.read(part)) for part in text.split(" ; "))
        for text in TEXTS:
            self.check_wrong_texts(read, text, words, endings)

    def test_never_changes(self):
        blocks = [Block(Standing(way="rapid"), Home("x"))]
        one = Preamble(*blocks)
        blocks.append(Block())
        self.assertEqual(1, len(one.blocks))
        before = str(one)
        sums = one.outcome(WIDE).sums
        sums["x"] = Sum("s")
        self.assertEqual((before, {"x": Sum("o")}), (str(one), one.outcome(WIDE).sums))


class OutcomesTest(Checks, unittest.TestCase):
    def expected(self, machine, blocks):
        """The outcome by playing with symbols."""
        stand = {axis: {name: Symbol(name) for name in machine.registers} for axis in machine.axes}
        numbers, words = played(machine, blocks, stand, {})
        sums = {
            axis: Sum(row["p"].source, row["p"].number) for axis, row in numbers.items() if row["p"].source != "p"
        }
        return Target(Standing(**words), **sums)

    def test_outcomes_and_stages(self):
        for machine in (WIDE, Machine(1, 1), Machine(2, 3)):
            for preamble in random_preambles(405, 150, len(machine.axes), machine.zeros):
                told = [self.expected(machine, preamble.blocks[:at + 1]) for at in range(len(preamble.blocks))]
                self.assertEqual(told, list(preamble.stages(machine)))
                self.assertEqual(told[-1] if told else Target(), preamble.outcome(machine))

    def test_by_hand(self):
        for text, told in (
            ("nothing", "- ; -"), ("-", "- ; -"), ("on fine rapid x 5", "on fine rapid ; -"),
            ("far fine zero 1 rapid x 5 ; on coarse x -1", "on coarse zero 1 rapid ; x z1-102"),
            ("rapid home x y ; on fine x 2 w 3 ; far zero 2 y 0", "far fine zero 2 rapid ; x o+10 y z2"),
            ("far zero 3 rapid x 0 ; cut pace 3 ; pace 4", "far zero 3 cut pace 4 ; x z3"),
            ("rapid touch w ; cut", "cut ; w s"), ("on fine rapid x 5 ; home x", "on fine rapid ; x o"),
            ("far fine zero 0 rapid x 1 ; zero 1 ; on x 1", "on fine zero 1 rapid ; x z0+10"),
        ):
            self.assertEqual(told, str(Preamble.read(text).outcome(WIDE)), text)
        self.assertEqual(["rapid ; x o", "rapid ; x o", "on fine rapid ; x o+5"], [
            str(target) for target in Preamble.read("rapid home x ; - ; on fine x 1").stages(WIDE)
        ])

    def test_made(self):
        chance = random.Random(406)
        for machine in (WIDE, Machine(1, 2)):
            for preamble in random_preambles(407, 150, len(machine.axes), machine.zeros):
                stand = Stand(machine, **{
                    axis: {name: chance.randint(-999, 999) for name in machine.registers} for axis in machine.axes
                })
                words = Standing(**{
                    name: chance.choice([None, *values_of(name, machine)]) for name in Standing.NAMES
                })
                numbers, held = played(machine, preamble.blocks, stand, dict(words))
                told = preamble.made(machine, stand, words)
                self.assertEqual((Stand(machine, **numbers), Standing(**held)), told)
                outcome = preamble.outcome(machine)
                self.assertTrue(outcome.words.is_part_of(told[1]))
                for axis, held_sum in outcome.sums.items():
                    self.assertEqual(held_sum.value_in(stand.numbers(axis)), told[0][axis, "p"])
        self.assertEqual({"fine": 5, "coarse": 127}, LENGTHS)

    def test_made_with_words_left(self):
        one = Machine(1, 1)
        stand = Stand(one, x={"p": 7, "z0": 100})
        made = Preamble.read("far zero 0 rapid x 0").made(one, stand, Standing())
        self.assertEqual((stand.with_number("x", "p", 100), Standing.read("far zero 0 rapid")), made)
        self.assertEqual((stand, Standing(pace=3)), Preamble().made(one, stand, Standing(pace=3)))
        self.assertEqual((stand, Standing(zero=3)), Preamble().made(one, stand, Standing(zero=3)))
        on = Preamble.read("on coarse rapid x -2").made(one, stand, Standing.first())
        self.assertEqual((-247, "on coarse zero 0 rapid tool 0 pace 0 still"), (on[0]["x", "p"], str(on[1])))

    def test_numbers_of_any_size(self):
        many = 10 ** 5000
        preamble = Preamble(Block(Standing.read("far coarse zero 0 rapid"), Move(x=many)), Block(Standing(reading="on"), Move(x=-1)))
        self.assertEqual(Sum("z0", 127 * many - 127), preamble.outcome(WIDE).sum_of("x"))
        made = preamble.made(Machine(1, 1), Stand(Machine(1, 1), x={"z0": 5}), Standing())
        self.assertEqual(127 * many - 122, made[0]["x", "p"])

    def test_fits(self):
        preamble = Preamble.read("rapid home x ; zero 2 ; touch y")
        self.assertEqual([True, False, False, True], [preamble.fits(Machine(*one)) for one in ((2, 3), (1, 4), (3, 2), (3, 4))])
        self.assertTrue(Preamble().fits(Machine(1, 1)))
        for machine, at in ((Machine(1, 4), 2), (Machine(2, 2), 1), (Machine(1, 2), 1)):
            self.check_error(BadPreamble, {"at": at}, preamble.outcome, machine)
            self.check_error(BadPreamble, {"at": at}, preamble.stages, machine)
            self.check_error(BadPreamble, {"at": at}, preamble.made, machine, None, None)

    def test_wrong_arguments(self):
        one = Machine(1, 1)
        for preamble in (Preamble(), Preamble.read("rapid touch w")):
            for value in wrong_values(lambda value: isinstance(value, Machine)):
                for work, rest in ((preamble.fits, ()), (preamble.outcome, ()), (preamble.stages, ()), (preamble.made, (9, 9))):
                    self.check_error(BadMachine, {"part": "machine"}, work, value, *rest)
        made = Preamble.read("rapid home x").made
        for value in wrong_values(lambda value: isinstance(value, Stand) and value.machine == one):
            self.check_error(BadStand, {"part": "stand"}, made, one, value, 9)
        for value in wrong_values(lambda value: isinstance(value, Standing)):
            self.check_error(BadWords, {"part": "words"}, made, one, Stand(one), value)
        self.assertRaises(BadText, Preamble.read, None)


if __name__ == "__main__":
    unittest.main()
