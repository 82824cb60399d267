import random
import unittest

from kinds import Checks, any_values, new_control, random_programs, wrong_values
from takenup.alike import alike
from takenup.arrivals import arrivals
from takenup.back import since_last, way_back
from takenup.blocks import Block, Here, Home, Lay, Move, Touch
from takenup.cuts import most_cuts
from takenup.errors import BadPaper, BadText
from takenup.heights import greatest
from takenup.items import Round
from takenup.least import fewest, least_preamble
from takenup.machines import Machine
from takenup.making import Making
from takenup.maps import Shift
from takenup.marks import Mark
from takenup.pairs import Want, pair_table, plain_table, wants
from takenup.papers import Denial, Paper, fixed
from takenup.powers import Rounds, rounds
from takenup.preambles import Preamble
from takenup.programs import Program
from takenup.reader import read_lines, read_value
from takenup.runs import play
from takenup.serving import serves
from takenup.standing import Standing
from takenup.stands import Stand
from takenup.stepping import run_shift
from takenup.sums import Sum
from takenup.tables import differences
from takenup.takeups import choices, take_up
from takenup.tapes import Row, Tape
from takenup.targets import Target
from takenup.texts import is_told, page_of, text_of
from takenup.unlike import unlike

PATH = Program.read("x 0 ; on ; round ( x 4 ; here x 0 ) ; far x 0")
MACHINE = Machine(1, 2)
ON = Standing.read("on fine zero 0 rapid")
NINES = int("9" * 60)
COUNTS = {
    "rounds": 3, "played": 3, "table": 1, "unlike": 2, "most": 3, "rising": 3, "free": 1, "want": 6, "parting": 4, "pairtable": 2,
    "plaintable": 1, "alike": 2, "unalike": 2, "served": 5, "unserved": 3, "choice": 2, "takenup": 2, "refusedword": 3, "refused": 1,
    "refusedrow": 3, "making": 2, "made": 2, "least": 2, "since": 3, "back": 3, "noway": 3, "cuts": 3, "endless": 3, "row": 3,
}
KINDS = (
    (ON, "words on fine zero 0 rapid"), (Standing(), "words -"), (Block(ON, Move(x=5, y=-3)), "block on fine zero 0 rapid x 5 y -3"),
    (Block(), "block -"), (Block(None, Home("x", "w")), "block home x w"), (Block(None, Here(y=0)), "block here y 0"),
    (PATH, "program x 0 ; on ; round ( x 4 ; here x 0 ) ; far x 0"), (Sum("z0", 5), "sum z0+5"), (Sum("p"), "sum p"),
    (Shift(MACHINE, {"p": Sum("z0", 5), "z1": Sum("p", -10)}), "shift p=z0+5 z0=z0 z1=p-10"),
    (Stand(MACHINE, x={"p": 3, "z0": -4}), "stand machine 1 2 x 3 -4 0 0 0"), (Mark("rapid", (5, -7)), "mark rapid 5 -7"),
    (Mark("cut", (5,), (0,), 1, 20, "turning"), "mark cut 0 to 5 tool 1 pace 20 turning"), (Target(ON, x=Sum("o", -1)), "target on fine zero 0 rapid ; x o-1"),
    (Target(), "target - ; -"), (Preamble(), "preamble nothing"), (Preamble.read("rapid home x ; cut"), "preamble rapid home x ; cut"),
    (MACHINE, "machine 1 2"), (Machine(3, 4), "machine 3 4"),
)
PLAIN = (
    (None, "none"), (0, "0"), (-17, "-17"), (NINES, str(NINES)), (-NINES, str(-NINES)), ("", "'"), ("x", "'x"), ("far zero 0", "'far zero 0"),
    ("none", "'none"), ("5", "'5"), ("a=b + - ( ) ; ;;", "'a=b + - ( ) ; ;;"), ("Zz09", "'Zz09"), ((), "[ ]"), ([0, [()]], "[ 0 , [ [ ] ] ]"),
    (("a", "", 5), "[ 'a , ' , 5 ]"), ({}, "{ }"), ({"y": None, "x": 5}, "{ x = 5 , y = none }"), ({"a": {"b": [1]}, "B": "c d"}, "{ B = 'c d , a = { b = [ 1 ] } }"),
    ([MACHINE, Sum("o"), 5], "[ machine 1 2 , sum o , 5 ]"), ({"none": "none", "1": 1}, "{ 1 = 1 , none = 'none }"),
)


def papers():
    """A paper of each class, as the package tells it, some of several kinds."""
    cut = Program.read("skip ( cut ) ; x 1 ; rapid")
    refused = Program.read("skip ( here x 0 ) ; on ; x 1 ; far x 0")
    rising = Program.read("x 0 ; round ( on x 1 )")
    ringed = Program.read("cut ; round ( x 1 ) ; x 2")
    one = Machine(1, 1)
    openings = [(3, ON, ON.number_words, Sum("z0", 20))]
    parting = pair_table(PATH, MACHINE, "x", [(3, ON, ON.number_words, None)])
    unlike_words = arrivals(rising, 1)[-1][0]
    found = [
        rounds(run_shift(PATH, MACHINE, (0, 1, 2, 3, 4), "x"), "p"), play(PATH, MACHINE, (0, 1, 2, 3, 4), Stand(MACHINE)), differences(PATH, MACHINE),
        unlike(PATH, MACHINE, 3, ON, "x", "p", "z1"), greatest(PATH, MACHINE, 3, "x", "p", "z0"), greatest(rising, one, 1, "x", "p", "z0"),
        greatest(PATH, MACHINE, 3, "x", "p", "o"), parting, pair_table(PATH, MACHINE, "x", openings),
        plain_table(PATH, [(0, Standing.first().plain_words, Standing())]), plain_table(PATH, [(5, Standing.first().plain_words, Standing())]),
        alike(PATH, MACHINE, PATH), alike(PATH, MACHINE, PATH.with_block(0, Block())), serves(PATH, MACHINE, 2, Target()),
        serves(PATH, MACHINE, 2, Target.read("far fine zero 0 rapid ; -")), *choices(PATH, MACHINE, 2), take_up(PATH, MACHINE, 2), take_up(cut, one, 1),
        take_up(refused, one, 2), fewest(MACHINE, Target.read("on coarse ; x z0+5")), least_preamble(PATH, MACHINE, 2), since_last(PATH, MACHINE, 2),
        take_up(refused, one, 2).rows[0], way_back(Program.read("x 0 ; on ; x 4"), one, 3, 0), way_back(PATH, MACHINE, 4, 2), way_back(cut, one, 2, 1), way_back(cut, one, 2, 0), most_cuts(ringed, 2, 1),
        most_cuts(ringed, 2, 0), Row(3, None, ((1, 2),)), Tape(), Tape(Row(3, (Mark("rapid", (4,)),), ((1, 2),)), Row(0, None, ())),
        Making(Standing(reading="on"), ("away", "there")), *wants(MACHINE, "x", ON, PATH[2], ON.number_words), unlike_words,
        Rounds(0, 1, 0), Want("p", "p", 0),
    ]
    return [paper for paper in found if isinstance(paper, Paper)]


def listed(value):
    """The value with each tuple in it, also within papers, as a list; None for a paper that cannot be made so."""
    if isinstance(value, Paper):
        return type(value)(*[listed(part) for part in value.parts])
    return [listed(item) for item in value] if isinstance(value, tuple) else value


class TextsTest(Checks, unittest.TestCase):
    def check(self, value, text):
        self.assertEqual(text, text_of(value))
        self.assertIs(True, is_told(value))
        told = read_value(text)
        self.assertEqual(text, text_of(told))
        self.assertIs(type(fixed(value) if isinstance(value, list) else value), type(told))
        self.assertEqual(fixed(value) if isinstance(value, (list, tuple)) else value if not isinstance(value, dict) else fixed(value), fixed(
            told) if isinstance(value, dict) else told)

    def test_plain_values(self):
        for value, text in PLAIN:
            self.check(value, text)

    def test_kinds(self):
        for value, text in KINDS:
            self.check(value, text)
            self.assertEqual(f"[ {text} , {{ a = {text} }} ]", text_of([value, {"a": value}]))
            self.assertEqual((value, (value, 5), value), read_value(f"[ {text} , [ {text} , 5 ] , {text} ]"))

    def test_papers(self):
        found = papers()
        for paper in found:
            text = text_of(paper)
            parts = [text_of(part) for part in paper.parts]
            self.assertEqual(f"{paper.word} [ {' , '.join(parts)} ]" if parts else f"{paper.word} [ ]", text)
            self.check(paper, text)
            self.assertEqual(text, text_of(Paper(paper.word, *paper.parts)))
            self.assertEqual(text, text_of(Denial(paper.word, *paper.parts)))
        self.assertEqual({*COUNTS, "tape"}, {paper.word for paper in found})
        example = Paper("most", 15, (0, 1), ())
        self.assertEqual("most [ 15 , [ 0 , 1 ] , [ ] ]", text_of(example))
        self.assertEqual("most", type(read_value(text_of(example))).__name__.lower())

    def test_how_many_parts(self):
        for word, many in COUNTS.items():
            for parts in range(8):
                paper = Paper(word, *range(parts))
                self.assertIs(parts == many, is_told(paper), (word, parts))
                text = f"{word} [ {' , '.join(map(str, range(parts)))} ]" if parts else f"{word} [ ]"
                if parts == many:
                    self.assertEqual(text, text_of(paper))
                    told = read_value(text)
                    self.assertEqual((paper, word), (told, type(told).__name__.lower()))
                else:
                    self.check_error(BadText, {"line": 0, "word": 2 * min(parts, many) + 1 + (parts == 0)}, read_value, text)
        self.assertFalse(is_told(Paper("tape", 0)) or is_told(Paper("tape", Row(0, 0, 0))) or is_told(Paper("mark", "rapid", (0,))))
        self.assertFalse(is_told(Paper("ring", 0)) or is_told(Paper("", 0)) or is_told(Denial("words", 0)))

    def test_drawn_papers(self):
        chance = random.Random(801)
        many = 0
        for axes, zeros in ((1, 2), (2, 2), (3, 1)):
            machine = Machine(axes, zeros)
            for program in random_programs(801 + zeros, 15, depth=3, axes=axes, zeros=zeros):
                self.assertEqual(program, read_value(text_of(program)))
                place = chance.randint(0, program.end)
                told = [take_up(program, machine, place), least_preamble(program, machine, place), since_last(program, machine, place)]
                told += [way_back(program, machine, place, other) for other in range(program.end + 1) if other != place]
                for paper in told:
                    text = text_of(paper)
                    many += 1
                    self.assertEqual((paper, type(paper)), (read_value(text), type(read_value(text))))
        self.assertGreater(many, 100)

    def test_lists_for_tuples(self):
        for paper in papers():
            if paper.word not in ("tape",):
                self.assertEqual(text_of(paper), text_of(listed(paper)))

    def test_values_without_a_text(self):
        deep = 0
        for _ in range(31):
            deep = [deep]
        papered = 0
        for _ in range(31):
            papered = Paper("free", papered)
        many = 10 ** 60
        strange = [
            True, False, many, -many, 10 ** 5000, 1.0, "a  b", " a", "a ", "a\nb", "a\tb", " ", "=", "a = b", "[", "a,b", "{", "'", "a.b", "a_b", "\u00e4",
            "a" * 401, {1: 2}, {"": 1}, {"a b": 1}, {"a" * 13: 1}, {"a-b": 1}, {"x": True}, [True], [[1.0]], set(), object(), deep, papered, {"x": deep[0]},
            Paper("free", True), Paper("free", {1: 2.5}), Sum("p", many), Block(None, Lay(x=many)), Program(Round(Block(None, Move(x=-many)))),
            Preamble(Block(Standing.read("on fine rapid"), Move(x=10 ** 5000))), Stand(MACHINE, x={"o": 10 ** 5000}), Target(None, x=Sum("o", many)),
            Shift(MACHINE, {"p": Sum("o", -10 ** 5000)}), Row(0, True, 0), Paper("table", [b"x"]), Block(None, Touch("x")).deed, Round(Block()), Exception, len,
            new_control(),
        ]
        strange += [
            Mark(*parts) for parts in (
                ("rapid", (many,)), ("rapid", ()), ("rapid", (1, 2, 3, 4)), ("rapid", (True,)), ("rapid", 5), ("rapid", None), ("far", (1,)), (None, (1,)),
                ("rapid", (1,), (1,)), ("rapid", (1,), None, 3), ("cut", (1,)), ("cut", (1,), (1, 2), 0, 0, "still"), ("cut", (1,), (1,), 10, 0, "still"),
                ("cut", (1,), (1,), True, 0, "still"), ("cut", (1,), (1,), 0, 100, "still"), ("cut", (1,), (1,), 0, 0, "stil"), ("cut", (1,), (1,), 0, 0, None),
                ("cut", (1,), (1,), 0, 10 ** 5000, "still"), ("cut", (1,), (1,), None, 0, "still"), ("rapid 5", (1,)), ("cut", (1,), 5, 0, 0, "still"),
                (10 ** 5000, (1,)), ("cut", (1,), (1,), 0, 0, 10 ** 5000), ("rapid", ((1,),)), ("rapid", ("1",)), ("rapid", {"a": 1}),
            )
        ]
        for value in strange:
            self.assertIs(False, is_told(value))
            self.check_error(BadPaper, {"part": "value"}, text_of, value)
            self.assertIs(False, is_told([value]))
            self.assertIs(isinstance(value, dict) and is_told(fixed(value)), is_told(Paper("free", [0, value])))
            self.assertIs(False, is_told({"x": value}))

    def test_any_value(self):
        told = 0
        for value in any_values():
            if is_told(value):
                told += 1
                again = read_value(text_of(value))
                self.assertEqual(text_of(value), text_of(again))
                self.assertFalse(isinstance(value, bool))
            else:
                self.check_error(BadPaper, {"part": "value"}, text_of, value)
        self.assertGreater(told, 60)

    def test_bounds(self):
        for many, told in ((30, True), (31, False)):
            deep, table, paper, mixed = 0, 0, 0, 0
            for at in range(many):
                deep, table, paper = [deep], {"x": table}, Paper("free", paper)
                inner = Paper("free", mixed) if at < 15 else {"x": mixed}
                mixed = [mixed] if at % 2 else inner
            for value in (deep, table, paper, mixed):
                self.assertIs(told, is_told(value))
                if told:
                    self.assertEqual(text_of(value), page_of(value))
        for many, told in ((400, True), (401, False)):
            self.assertIs(told, is_told("a" * many))
            self.assertIs(told, is_told("b" * (many % 2) + " a" * (many // 2) if many % 2 else "b" + " a" * (many // 2 - 1) + "b"))
        for many, told in ((0, False), (1, True), (12, True), (13, False)):
            self.assertIs(told, is_told({"k" * many: 0}))
        for many, told in ((60, True), (61, False)):
            self.assertIs(told, is_told(int("9" * many)))
            self.assertIs(told, is_told(-int("1" + "0" * (many - 1))))

    def test_pages(self):
        values = [None, 5, "a b", [1], MACHINE, Sum("o"), papers()[0]]
        page = page_of(*values)
        self.assertEqual("\n".join(text_of(value) for value in values), page)
        self.assertEqual(tuple(fixed(value) for value in values), read_lines(page))
        self.assertEqual(("", ()), (page_of(), read_lines("")))
        for value in wrong_values(is_told):
            self.check_error(BadPaper, {"part": 0}, page_of, value, True)
            self.check_error(BadPaper, {"part": 2}, page_of, 1, 2, value, value)

    def test_nothing_changes(self):
        table = {"y": [1], "x": 2}
        self.assertEqual("{ x = 2 , y = [ 1 ] }", text_of(table))
        self.assertEqual((["y", "x"], [1]), (list(table), table["y"]))
        told = read_value("{ x = 2 }")
        told["x"] = 3
        self.assertEqual({"x": 2}, read_value("{ x = 2 }"))


class ReaderTest(Checks, unittest.TestCase):
    def check_word(self, text, word):
        self.check_error(BadText, {"line": 0, "word": word}, read_value, text)
        self.check_error(BadText, {"line": 7, "word": word}, read_value, text, 7)
        if "\n" not in text and text != "":
            self.check_error(BadText, {"line": 1, "word": word}, read_lines, f"5\n{text}\nq")

    def test_what_cannot_stand(self):
        for text, word in (
            ("", 0), (" ", 0), ("q", 0), ("True", 0), ("none none", 1), ("none ", 1), ("05", 0), ("+5", 0), ("-0", 0), ("5 5", 1), ("9" * 61, 0), ("5\n", 0),
            ("[", 1), ("[ ", 1), ("[ ,", 1), ("[ 5", 2), ("[ 5 ,", 3), ("[ 5 , ]", 3), ("[ 5 5 ]", 2), ("[ ] ]", 2), ("]", 0), (",", 0), ("=", 0), ("}", 0),
            ("[]", 0), ("[ 5 }", 2), ("{ }  ", 2), ("{", 1), ("{ x", 2), ("{ x =", 3), ("{ x = 5", 4), ("{ x = 5 , }", 5), ("{ x = 5 , x = 6 }", 5),
            ("{ y = 5 , x = 6 }", 5), ("{ x 5 }", 2), ("{ 'x = 5 }", 1), ("{ x-y = 5 }", 1), ("{ " + "k" * 13 + " = 5 }", 1), ("{ = 5 }", 1), ("{ x = = }", 3),
            ("{ x = 5 ]", 4), ("{ x = }", 3), ("{ x = 5 y = 6 }", 4), ("{ none = none , a = 1 }", 5), ("{ , }", 1), ("{ [ = 5 }", 1),
        ):
            self.check_word(text, word)

    def test_strings_that_cannot_stand(self):
        for text, word in (
            ("''", 0), ("'a'", 0), ("'a b,", 1), ("'a  b", 1), ("'a ", 1), ("' ", 1), ("' a", 1), ("'a = b", 1), ("'=", 0), ("'a ]", 1), ("'[", 0), ("'a.b", 0),
            ("'a b c_d e", 2), ("[ 'a b , ' ] 5", 6), ("[ ' a ]", 2), ("[ 'a b", 3), ("'" + "a" * 401, 0), ("'" + "a" * 399 + " b", 1),
            ("'" + " ".join(["ab"] * 133) + " ab", 133), ("'a\tb", 0), ("'a none 'b", 2), ("{ x = 'a b = 5 }", 5),
        ):
            self.check_word(text, word)
        self.assertEqual("a" * 400, read_value("'" + "a" * 400))
        self.assertEqual("a" * 398 + " b", read_value("'" + "a" * 398 + " b"))
        self.assertEqual(("", "", "a b"), read_value("[ ' , ' , 'a b ]"))

    def test_kinds_that_cannot_stand(self):
        for text, word in (
            ("sum", 1), ("sum ", 1), ("sum z9", 1), ("sum z0 z1", 2), ("sum z0+5 none", 2), ("sum z0+" + "9" * 61, 1), ("[ sum ]", 2), ("[ sum , 5 ]", 2),
            ("[ sum z0 5 ]", 3), ("words", 1), ("words far far", 2), ("[ words far ; ]", 3), ("words zero", 2), ("[ words zero ]", 3), ("words - -", 2),
            ("block far here", 3), ("[ block here ]", 3), ("block x 1 far", 3), ("program", 1), ("program round ( x 4", 5), ("[ program x 0 ; ]", 5),
            ("program ; x", 1), ("shift p=p", 2), ("shift p=p z0=z1", 3), ("[ shift p=p z0=z1 ]", 4), ("shift p = p", 1), ("stand", 1), ("stand machine 1 1 x 3", 6),
            ("stand machine 4 1", 2), ("mark cut 5 -7", 4), ("[ mark cut 5 -7 ]", 5), ("mark rapid", 2), ("mark rapid 1 2 3 4", 5), ("target far", 2),
            ("target far ;", 3), ("target - ; x p", 4), ("target - ; x o x o", 5), ("preamble", 1), ("preamble nothing ; -", 2), ("preamble x 1", 3),
            ("[ preamble x 1 ]", 4), ("[ preamble x 1 ; here x 0 , 5 ]", 8), ("preamble x 1 ; q", 4), ("preamble rapid home x ; far fine zero 0 here x 0", 12),
            ("machine", 1), ("machine 4 1", 1), ("machine 1 5", 2), ("machine 1", 2), ("[ machine 1 ]", 3), ("[ machine ]", 2), ("machine 1 2 3", 3), ("machine machine 1 2", 1),
        ):
            self.check_word(text, word)

    def test_papers_that_cannot_stand(self):
        row = "row [ 0 , none , [ ] ]"
        for text, word in (
            ("most", 1), ("most 5", 1), ("most [", 2), ("most [ ]", 2), ("most [ 5 ]", 3), ("most [ 5 , 6 ]", 5), ("most [ 5 , 6 , 7 , 8 ]", 7), ("most [ 5 , 6 , 7", 7),
            ("most [ 5 , 6 , 7 ] ]", 8), ("most [ 5 6", 3), ("free [ { } ]", 2), ("free [ [ { x = 1 } ] ]", 3), ("[ { x = free [ 5 ] } , free [ { } ] ]", 12),
            ("unlike [ { } , { } ]", 2), ("Most [ 5 , 6 , 7 ]", 0), ("paper [ 5 ]", 0), ("denial [ 5 ]", 0), ("tape", 1), ("tape 5", 1), ("tape [ 5 ]", 3),
            (f"tape [ {row} , 5 ]", 13), ("tape [ row [ -1 , none , [ ] ] ]", 11), (f"tape [ {row}", 11), (f"tape [ {row} , ]", 12), ("tape [ , ]", 2), ("tape [ row", 3),
            ("tape [ row [ 0 , [ 'a ] , [ ] ] ]", 13), ("free [ tape [ 5 ] ]", 5), ("tape [ { } ]", 2), ("tape [ [ { x = 1 } ] ]", 3), ("want [ 'p , 'p , 0 ]", 7), ("row [ 0 , none ]", 5), ("row", 1),
            ("tape [ row [ 0 , none , [ [ none ] ] ] ]", 14),
        ):
            self.check_word(text, word)
        self.assertEqual(Tape(Row(0, None, ())), read_value(f"tape [ {row} ]"))
        self.assertEqual(Row(-1, True and "a", None), read_value("row [ -1 , 'a , none ]"))
        self.assertEqual({"x": Paper("free", 5)}, read_value("{ x = free [ 5 ] }"))

    def test_thirty_brackets(self):
        for many in (29, 30):
            for opened, closed, first in (("[", "]", None), ("free [", "]", None), ("{ x =", "}", None), ("[ 5 ,", "]", None)):
                text = " ".join([opened] * many + ["0"] + [closed] * many)
                self.assertEqual(text, text_of(read_value(text)))
                self.assertIsNone(first)
        for opened, closed, word in (("[", "]", 30), ("free [", "]", 61), ("{ x =", "}", 90), ("[ 5 ,", "]", 90), ("tape [", "]", 61)):
            if opened == "tape [":
                self.check_word(" ".join(["free ["] * 30 + ["tape [ ]"] + ["]"] * 30), 61)
                self.assertEqual(29, text_of(read_value(" ".join(["free ["] * 29 + ["tape [ ]"] + ["]"] * 29))).count("free"))
            else:
                self.check_word(" ".join([opened] * 31 + ["0"] + [closed] * 31), word)
        self.check_word(" ".join(["["] * 30 + ["row", "5"]), 31)
        self.check_word(" ".join(["["] * 30 + ["{", "}"]), 30)
        self.check_word(" ".join(["["] * 30 + ["]"] * 29 + [",", "[", "["]), 62)
        self.check_word(" ".join(["["] * 30 + ["]", ",", "[", "]"]), 34)

    def test_texts_a_little_beside(self):
        texts = ("[ 0 , [ 'a b , none ] ]", "{ a = 5 , b = { } }", "most [ 15 , [ 0 ] , ' ]", "[ sum z0+5 , words far ]")
        words = ["[", "]", "{", ",", "=", "5", "'", "a", "sum", "free", ""]
        for text in texts:
            parts = text.split(" ")
            tails = [parts[at:] for at in range(len(parts))]
            starts = [[], ["5"], [",", "5"], ["[", "5", "]"], ["]"], ["z0"], ["="], ["=", "5"], ["x", "=", "5"], ["-"], ["5", ","], ["[", "5"], ["}"],
                ["a", "=", "5", "}"], ["5", "}"], ["=", "5", "}"], ["zz", "=", "5"], ["[", "]"], ["[", "0", ",", "0", ",", "0", "]"],
                ["1", "2"], ["-", ";", "-"]]
            endings = [start + tail for tail in tails + [[]] for start in starts]
            closers = [["]"] * one + ["}"] * two + ["]"] * more for one in range(3) for two in range(3) for more in range(2)]
            endings += [["[", "5", "]"] + tail for tail in tails] + [start + closer for closer in closers for start in starts]

            def read(text):
                return text_of(read_value(text))
            self.check_wrong_texts(read, text, words, endings)

    def test_what_is_no_string(self):
        for value in wrong_values(lambda value: isinstance(value, str)):
            for line in (0, 3, None, "x"):
                self.check_error(BadText, {"line": line, "word": 0}, read_value, value, line)
            self.check_error(BadText, {"line": 0, "word": 0}, read_lines, value)

    def test_lines(self):
        self.assertEqual((5, "a", None), read_lines("5\n'a\nnone"))
        for page, line, word in (("\n", 0, 0), ("5\n", 1, 0), ("5\n\n6", 1, 0), ("5\n6 7\nq", 1, 1), ("q\n5", 0, 0), ("5\r\n6", 0, 0), (" ", 0, 0)):
            self.check_error(BadText, {"line": line, "word": word}, read_lines, page)


if __name__ == "__main__":
    unittest.main()
