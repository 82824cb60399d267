import unittest

from kinds import Checks, any_values, wrong_values
from takenup.blocks import Block
from takenup.desk_lines import Line, read_line
from takenup.errors import BadText
from takenup.preambles import Preamble
from takenup.programs import Program
from takenup.reader import read_value
from takenup.standing import Standing
from takenup.stands import Stand
from takenup.targets import Target
from takenup.texts import text_of

ON = Standing.read("on fine zero 0 rapid")
FULL = "on coarse zero 3 cut tool 9 pace 99 turning"
STAND = "machine 2 1 x 3 10 0 -4 y 0 0 0 0"
PROGRAM = "x 0 ; on ; round ( x 4 ; here x 0 )"
DEEDS = ("machine", "program", "begin", "step", "leap", "break", "take", "part", "resume", "over", "undo", "again")
ASKS = (
    "where", "run", "stand", "tape", "after", "nodes", "difference", "tied", "greatest", "least", "uses", "serves", "target", "preamble",
    "places", "paper", "shown", "alike", "lean", "back", "cuts",
)
PREAMBLE = "far fine zero 0 rapid x 5 ; on ; home y"
LINES = (
    ("machine 3 4", (3, 4)), ("machine 1 1", (1, 1)), (f"program {PROGRAM}", (Program.read(PROGRAM),)), ("program -", (Program(Block()),)),
    (f"begin {STAND}", (Stand.read(STAND),)), (f"begin {STAND} {FULL}", (Stand.read(STAND), Standing.read(FULL))), ("step 0", (0,)), ("step 40", (40,)),
    ("leap 7", (7,)), ("break -", (Block(),)), ("break x 5 y -3", (Block.read("x 5 y -3"),)), (f"break {FULL} w 0", (Block.read(f"{FULL} w 0"),)),
    ("break far", (Block.read("far"),)), ("take nothing", (Preamble(),)), (f"take {PREAMBLE}", (Preamble.read(PREAMBLE),)), ("part 0 nothing", (0, Preamble())),
    (f"part 40 {PREAMBLE}", (40, Preamble.read(PREAMBLE))), ("resume", ()), ("over x 1", (Program.read("x 1"),)), ("undo", ()), ("again", ()), ("where", ()),
    ("run", ()), ("stand", ()), ("tape", ()), ("after 3", (3,)), ("nodes 0", (0,)), (f"difference 3 x p z0 {ON}", (3, "x", "p", "z0", ON)),
    ("difference 40 w s z3 on coarse zero 3 cut", (40, "w", "s", "z3", Standing.read("on coarse zero 3 cut"))), (f"tied 2 y {ON}", (2, "y", ON)), ("greatest 5 x o s", (5, "x", "o", "s")),
    ("least 5 w z1 z2", (5, "w", "z1", "z2")), ("uses 9", (9,)), ("serves 2 far zero 0 ; x z0+5", (2, Target.read("far zero 0 ; x z0+5"))), ("target 4", (4,)),
    ("serves 2 - ; -", (2, Target())), ("preamble 4", (4,)), ("places", ()), ("paper 1", (1,)), ("shown 1 none", (1, None)),
    ("shown 0 { x = [ 5 , 'a b ] }", (0, {"x": (5, "a b")})), ("shown 0 free [ [ 5 ] ]", (0, read_value("free [ [ 5 ] ]"))), ("alike -", (Program(Block()),)),
    ("lean", ()), ("back 3 4", (3, 4)), ("cuts 0 40", (0, 40)),
)


class LinesTest(Checks, unittest.TestCase):
    def test_each_line(self):
        names = set()
        for text, things in LINES:
            line = read_line(text)
            self.assertIs(Line, type(line))
            name = text.split(" ")[0]
            names.add(name)
            self.assertEqual((name, name in DEEDS), (line.name, line.is_deed))
            self.assertIs(tuple, type(line.things))
            self.assertEqual(things, line.things)
            self.assertEqual([type(thing) for thing in things], [type(thing) for thing in line.things])
            self.assertEqual(Line(name, *things), line)
        self.assertEqual({*DEEDS, *ASKS}, names)
        self.assertEqual((DEEDS, ASKS), (Line.DEEDS, Line.ASKS))

    def test_what_cannot_stand(self):
        for text, word in (
            ("", 0), (" where", 0), ("Where", 0), ("q", 0), ("where ", 1), ("where where", 1), ("lean 3", 1), ("resume -", 1), ("machine", 1), ("machine 0 1", 1),
            ("machine 4 1", 1), ("machine 1 5", 2), ("machine 1 0", 2), ("machine 1", 2), ("machine 1 1 1", 3), ("machine 01 1", 1), ("program", 1), ("program ", 1),
            ("program x", 2), ("program x 0 ;", 4), ("program round ( x 4", 5), ("program " + " ; ".join(["-"] * 41), 81), ("begin", 1), ("begin far", 1),
            ("begin machine 1 1 x 0 0 0", 8), ("begin machine 1 1 x 0 0 0 far", 8), (f"begin {STAND} far", 15), (f"begin {STAND} far zero", 15), (f"begin {STAND} fine", 14),
            (f"begin {STAND} {FULL} x", 24), (f"begin {STAND} {FULL[:-9]}", 23), (f"begin {STAND} on coarse zero 4", 17), (f"begin {STAND} {FULL.replace('pace 99', 'pace 100')}", 22),
            ("step", 1), ("step 41", 1), ("step -1", 1), ("step x", 1), ("step 1 2", 2), ("leap", 1), ("step 00", 1), ("break", 1), ("break ", 1), ("break here x 0", 1),
            ("break far here x 0", 2), ("break home x", 1), ("break touch x", 1), ("break lay x 5", 1), ("break on zero lay", 3), ("break x 5 home y", 3), ("break x", 2), ("break x 5 x 6", 3),
            ("break on far", 2), ("break q here", 1), ("break x here 5", 2), ("break - -", 2), ("break x 5 ;", 3), ("take", 1), ("take here x 0", 4), ("take rapid home", 3),
            ("take rapid home x ; cut ; home x", 9), ("take nothing ; -", 2), ("part", 1), ("part 1", 2), ("part 41 -", 1), ("part - -", 1), ("part 1 x 1", 4), ("part 2 rapid home x q", 5),
            ("over", 1), ("over x", 2), ("after", 1), ("after 41", 1), ("difference 3", 2), ("difference 3 q", 2), ("difference 3 x", 3), ("difference 3 x z4", 3), ("difference 3 x p p", 5),
            ("difference 3 x p p on", 6), ("difference 3 x p p fine", 5), (f"difference 3 x p p {ON} tool", 10), ("difference 3 x p p on fine zero 0", 9), ("difference 3 x p p on zero", 6),
            ("difference 3 x p p on fine zero 4 rapid", 8), (f"tied 3 {ON}", 2), (f"tied 3 z {ON}", 2), (f"tied 3 x {ON} far", 8), ("greatest 1 x p", 4), ("greatest 1 x p o o", 5),
            ("least 1 x q o", 3), ("uses", 1), ("uses 1 1", 2), ("serves 1", 2), ("serves 1 -", 3), ("serves 1 - ; x p", 5), ("serves 1 - ; x o ; y o", 6), ("serves - ; -", 1), ("target", 1),
            ("shown 1", 2), ("shown 1 ", 2), ("shown 1 q", 2), ("shown 1 [ 5", 4), ("shown 1 [ 5 ] 6", 5), ("shown 1 free [ { } ]", 4), ("shown 1 'a = b", 3), ("shown [ ]", 1), ("shown 1 preamble x 1", 5),
            ("alike", 1), ("alike ; x", 1), ("back 1", 2), ("back 1 41", 2), ("back 1 2 3", 3), ("cuts 1 x", 2), ("cuts", 1), ("paper", 1), ("preamble", 1), ("nodes 1 2", 2), ("places 0", 1),
        ):
            self.check_error(BadText, {"line": 0, "word": word}, read_line, text)
            self.check_error(BadText, {"line": 9, "word": word}, read_line, text, 9)

    def test_texts_a_little_beside(self):
        words = ["far", "x", "5", "-", ";", "41"]
        tail = ["on", "fine", "zero", "0", "rapid"]
        for text in (
            "machine 2 4", "step 3", "break far x 5", f"difference 3 x p z0 {ON}", "serves 2 far ; x z0", "back 2 3", "undo", "program x 0 ; on",
            "begin machine 1 1 x 0 0 0 0",
        ):
            parts = text.split(" ")
            starts = [[], ["0"], ["x"], ["1", "1"], ["0", "0", "0", "0"], ["x", "o"], [";", "-"], ["-", ";", "-"], ["x", "0"], ["zero", "0"], ["-"], ["0", "-"], ["x", "p", "p"], ["p", "p"], ["rapid"]]
            starts += [["1", "1", "x", "0", "0", "0", "0"], ["machine", "1", "1", "x", "0", "0", "0", "0"], ["x", "0", "0", "0", "0"], ["y", "0", "0", "0", "0"]]
            starts += [start + tail[at:] for start in ([], ["p"], ["x", "p", "p"], ["x"]) for at in range(5)]
            starts += [["0"] + start for start in starts]
            endings = [start + parts[at:] for start in starts for at in range(len(parts) + 1)]
            endings += [FULL.split(" ")[at:] for at in range(10)]
            endings += [["0", *FULL.split(" ")[at:]] for at in range(10)]

            def read(text):
                read_line(text)
                return text
            self.check_wrong_texts(read, text, words, endings)

    def test_what_is_no_string(self):
        for value in wrong_values(lambda value: isinstance(value, str)):
            self.check_error(BadText, {"line": 0, "word": 0}, read_line, value)
            self.check_error(BadText, {"line": value, "word": 0}, read_line, value, value)

    def test_read_back(self):
        """The texts of the things are the words of the line."""
        for text, _ in LINES:
            line = read_line(text)
            told = [str(thing) for thing in line.things] if line.name != "shown" else [str(line.things[0]), text_of(line.things[1])]
            self.assertEqual(text, " ".join([line.name, *told]))


class LineTest(Checks, unittest.TestCase):
    def test_any_values(self):
        for value in any_values():
            line = Line(value, value)
            self.assertIs(isinstance(value, str) and value in DEEDS, line.is_deed)
            self.assertEqual(1, len(line.things))
            self.assertTrue(line == Line(value, value))
            self.assertFalse(Line("step", 1) == value and not isinstance(value, Line))
        self.assertEqual(((1, (2, (3,))), {"a": (1, {"b": (2,)})}, "x"), Line("q", [1, [2, (3,)]], {"a": [1, {"b": [2]}]}, "x").things)
        self.assertIs(dict, type(Line("q", {"a": [1]}).things[0]))

    def test_equality(self):
        one = Line("shown", 2, {"a": [1]})
        self.assertTrue(one == Line("shown", 2, {"a": (1,)}) and not one != Line("shown", 2, {"a": [1]}))
        for other in (Line("shown", 2), Line("shown", 2, {"a": 1}), Line("paper", 2, {"a": [1]}), Line("shown", 2, {"a": [1]}, 3), Line("shown", (2, {"a": (1,)}))):
            self.assertFalse(one == other)
        for value in any_values():
            self.assertFalse(one == value)
        for name in ("__init__", "__eq__"):
            self.assertIn(name, vars(Line))

    def test_never_changes(self):
        table = {"a": [1]}
        line = Line("q", table)
        table["a"].append(2)
        table["b"] = 3
        self.assertEqual(({"a": (1,)},), line.things)
        line.things[0]["c"] = 4
        self.assertEqual(({"a": (1,)},), line.things)


if __name__ == "__main__":
    unittest.main()
