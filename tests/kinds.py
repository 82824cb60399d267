"""Values of all kinds, wrong texts, and random programs, for the tests."""

import random

from takenup.alike import Alike, Unalike
from takenup.back import Back, NoWay, Since
from takenup.blocks import Block, Here, Home, Lay, Move, Touch
from takenup.controls import Control
from takenup.cuts import Cuts, Endless
from takenup.desk import Desk
from takenup.desk_lines import Line
from takenup.errors import BadText, ToolError
from takenup.heights import Free, Most, Rising
from takenup.items import Round, Skip, Told
from takenup.least import Least, Made
from takenup.machines import Machine
from takenup.making import Making
from takenup.maps import Shift
from takenup.marks import Mark
from takenup.pairs import PairTable, Parting, PlainTable, Want
from takenup.papers import Denial, Paper
from takenup.powers import Rounds
from takenup.preambles import Preamble
from takenup.programs import Program
from takenup.runs import Played
from takenup.serving import Served, Unserved
from takenup.standing import Standing
from takenup.stands import Stand
from takenup.sums import Sum
from takenup.tables import Table
from takenup.takeups import Choice, Refused, RefusedRow, RefusedWord, TakenUp
from takenup.tapes import Row, Tape
from takenup.targets import Target
from takenup.trials import Trial
from takenup.unlike import Unlike


def any_values():
    """Values of all kinds; none of them is right everywhere."""
    return [
        None, True, False, 0, 1, 2, 3, 4, -1, 10, 41, 10 ** 13, 10 ** 5000, -10 ** 5000, 0.0, 1.0, 2.5, "", " ", "x",
        "y", "w", "q", "p", "z0", "z3", "z9", "o", "s", "far", "reading", "zero", "machine 1 2", "z0+5", b"x", [], [0],
        ["x"], [[]], (), (0,), ("x", "p"), {}, {"x": 1}, {"p": 1}, {0: 1}, set(), object(), len, Machine, Machine(3, 4),
        Standing(), Standing.first(), Move(x=1), Here(x=1), Lay(x=1), Home("x"), Touch("x"), Block(),
        Block(None, Move(x=1)), Skip(Block()), Round(Block()), Told(2, Block()), Program(Block()), Sum("p"),
        Shift(Machine()), Stand(Machine()), Mark("rapid", (0,)), Paper("most", 1), Denial("ring"), Rounds(0, 1, 0),
        BadText(0, 0), Target(), Target(Standing(zero=3), x=Sum("z0")), Preamble(), Preamble.read("rapid home x"),
        *strange_papers(), Line("step", 1), Desk(), new_control(), Trial(new_control()),
    ]


def new_control():
    """A control at its beginning."""
    return Control(Program(Block()), Machine(), Stand(Machine()))


def strange_papers():
    """Papers of each class, made of values of all kinds."""
    run = (0,)
    return [
        Played(None, None, None), Table(None), Table(((0, "far fine zero 0 rapid", "x", ()),)), Table(((0, 1, 2, 3),)),
        Unlike(None, None), Unlike(run, run), Most(None, None, None), Most(0, run, ((1, 2, 3, 4, 5),)), Rising(1, 2, 3),
        Rising(run, run, run), Free(None), Free(run), Want("p", "p", 0), Parting(None, None, None, None),
        Parting(run, (0, 1), (), "mark"), Parting(run, (0, 1), ({0},), {0}), PairTable(None, None),
        PairTable("x", ((0, 1, 2, 3), ({0}, {0}, {0}, {0}))), PairTable("x", ()), PlainTable(None),
        PlainTable(((0, {0}, 1),)), PlainTable(()), Alike(None, None), Alike((1,), PlainTable(())), Unalike(None, None),
        Unalike(Parting(run, run, (), "ends"), {0}), Served(0, 0, 0, 0, 0), Unserved(0, 0, 0), Choice(0, 0),
        TakenUp(0, 0), RefusedWord(0, 0, 0), Refused(0), RefusedRow(0, 0, 0), Making(Standing(), ()), Making(0, 0),
        Made(0, 0), Made(Preamble(), ((0, 0),)), Least(0, 0), Since(0, 0, 0), Since(0, Table(()), ((0, "-", "x", 0),)),
        Back(0, 0, 0), NoWay(0, 0, 0), Cuts(0, 0, 0), Cuts(0, run, ((0, "rapid", None),)), Endless(0, 0, 0),
        Row(0, 0, 0), Row(0, None, ((0,),)), Tape(), Tape(Row(0, None, ((0,),))),
    ]


def is_integer(value):
    return isinstance(value, int) and not isinstance(value, bool)


def wrong_values(is_right):
    return [value for value in any_values() if not is_right(value)]


class Checks:
    """Checks that many tests use, beside unittest.TestCase."""

    def check_error(self, error, fields, work, *args, **more):
        """The call raises just this error with these fields (a dict)."""
        with self.assertRaises(ToolError) as caught:
            result = work(*args, **more)
            if hasattr(result, "__next__"):
                list(result)
        told = caught.exception
        self.assertIs(error, type(told), (args if len(repr_of(args)) < 200 else "", told))
        self.assertEqual(set(fields), set(vars(told)))
        for name, value in fields.items():
            self.assertIs(type(value), type(getattr(told, name)))
            self.assertEqual(value, getattr(told, name))

    def check_text(self, read, text, word):
        self.check_error(BadText, {"line": 0, "word": word}, read, text)

    def check_no_texts(self, read):
        """What is no string is refused at once."""
        for value in any_values():
            if not isinstance(value, str):
                self.check_text(read, value, 0)
        self.check_text(read, "", 0)

    def check_reads(self, read, value):
        told = read(str(value))
        self.assertIs(type(value), type(told))
        self.assertEqual(value, told)
        self.assertEqual(str(value), str(told))

    def check_wrong_texts(self, read, text, words, endings):
        """Texts a little beside a right one: each is read as itself, or refused at the first wrong word.

        A word is the first wrong one if the words ahead of it can be completed by one of the endings, and those
        up to it cannot.
        """
        for wrong in sorted(set(beside(text, words))):
            try:
                self.assertEqual(wrong, str(read(wrong)))
            except BadText as error:
                self.assertEqual(0, error.line)
                parts = wrong.split(" ")
                self.assertLessEqual(error.word, len(parts))
                self.assertTrue(can_go_on(read, parts[:error.word], endings), (wrong, error.word))
                if error.word < len(parts):
                    self.assertFalse(can_go_on(read, parts[:error.word + 1], endings), (wrong, error.word))


def repr_of(value):
    try:
        return repr(value)
    except ValueError:
        return "?" * 300


def can_go_on(read, parts, endings):
    """Whether a text begins with these words, as far as the endings show it."""
    for ending in endings:
        text = " ".join(parts + ending)
        try:
            if parts + ending and str(read(text)) == text:
                return True
        except BadText:
            pass
    return False


def beside(text, words):
    """Texts with a word left out, put in, doubled, exchanged or spoilt."""
    parts = text.split(" ")
    for at in range(len(parts)):
        yield " ".join(parts[:at] + parts[at + 1:])
        yield " ".join(parts[:at] + [parts[at]] + parts[at:])
        yield " ".join(parts[:at] + [parts[at] + "\n"] + parts[at + 1:])
        yield " ".join(parts[:at] + ["\t" + parts[at]] + parts[at + 1:])
        yield " ".join(parts[:at] + [parts[at].upper() + "A"] + parts[at + 1:])
        yield " ".join(parts[:at] + ["+" + parts[at]] + parts[at + 1:])
        yield " ".join(parts[:at] + ["0" + parts[at]] + parts[at + 1:])
        yield " ".join(parts[:at] + ["-" + parts[at]] + parts[at + 1:])
        yield " ".join(parts[:at])
        for word in words:
            yield " ".join(parts[:at] + [word] + parts[at:])
            yield " ".join(parts[:at] + [word] + parts[at + 1:])
        for other in range(at):
            changed = list(parts)
            changed[at], changed[other] = parts[other], parts[at]
            yield " ".join(changed)
    for word in words:
        yield " ".join(parts + [word])


def random_block(chance, axes=1, zeros=2, most=9):
    words = {}
    if chance.random() < 0.4:
        words["reading"] = chance.choice(["far", "on"])
    if chance.random() < 0.3:
        words["unit"] = chance.choice(["fine", "coarse"])
    if chance.random() < 0.3:
        words["zero"] = chance.randrange(zeros)
    if chance.random() < 0.2:
        words["way"] = chance.choice(["rapid", "cut"])
    if chance.random() < 0.1:
        words["tool"] = chance.randrange(10)
    if chance.random() < 0.1:
        words["pace"] = chance.randrange(100)
    if chance.random() < 0.1:
        words["spindle"] = chance.choice(["still", "turning"])
    names = [axis for axis in Machine.AXES[:axes] if chance.random() < 0.8]
    if not names:
        return Block(Standing(**words))
    kind = chance.choice([Move, Move, Move, Here, Here, Lay, Home, Touch])
    if kind in (Home, Touch):
        return Block(Standing(**words), kind(*names))
    return Block(Standing(**words), kind(**{name: chance.randint(-most, most) for name in names}))


def random_told(chance, depth, axes=1, zeros=2, most=3):
    items = []
    for _ in range(chance.randint(1, 3)):
        if depth > 1 and chance.random() < 0.4:
            items.append(random_told(chance, depth - 1, axes, zeros, most))
        else:
            items.append(random_block(chance, axes, zeros))
    return Told(chance.randint(1, most), *items)


def random_item(chance, depth, axes=1, zeros=2, most=3):
    roll = chance.random()
    if depth == 0 or roll < 0.4:
        return random_block(chance, axes, zeros)
    if roll < 0.55:
        return random_told(chance, min(depth, 2), axes, zeros, most)
    items = [random_item(chance, depth - 1, axes, zeros, most) for _ in range(chance.randint(1, 2))]
    return Skip(*items) if roll < 0.78 else Round(*items)


def random_programs(seed, many, depth=3, axes=1, zeros=2, most=3, items=3):
    chance = random.Random(seed)
    programs = []
    while len(programs) < many:
        row = [random_item(chance, depth, axes, zeros, most) for _ in range(chance.randint(1, items))]
        programs.append(Program(*row))
    return programs


def programs_of(seed, many, texts, depth=3, items=4):
    """Programs whose blocks have some of these texts."""
    chance = random.Random(seed)
    blocks = [Block.read(text) for text in texts]
    return [
        Program(*[item_of(chance, blocks, depth) for _ in range(chance.randint(1, items))]) for _ in range(many)
    ]


def item_of(chance, blocks, depth):
    roll = chance.random()
    if depth == 0 or roll < 0.5:
        return chance.choice(blocks)
    if roll < 0.6:
        return Told(chance.randint(1, 3), *[chance.choice(blocks) for _ in range(chance.randint(1, 3))])
    members = [item_of(chance, blocks, depth - 1) for _ in range(chance.randint(1, 3))]
    return Skip(*members) if roll < 0.8 else Round(*members)
