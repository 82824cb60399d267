import random
import unittest

from acts import random_preamble, random_stand, random_words
from kinds import Checks, any_values, random_programs, wrong_values
from side_by_side import program_with_one_other_block
from takenup.alike import alike
from takenup.arrivals import arrivals
from takenup.back import way_back
from takenup.blocks import Block, Move
from takenup.controls import Control
from takenup.cuts import most_cuts
from takenup.desk import Desk
from takenup.desk_lines import Line, read_line
from takenup.errors import (
    BadLine, BadMachine, BadPaper, BadPreamble, BadProgram, BadStand, BadTarget, BadText, BadWords, NoAxis, NoNode, NoPlace, NoRegister,
    Nothing, Running, Stopped, ToolError, TooMany,
)
from takenup.heights import greatest, least
from takenup.idle import lean
from takenup.least import least_preamble
from takenup.look_takeups import shows_refused, shows_taken
from takenup.machines import Machine
from takenup.needs import need_fit
from takenup.reader import read_value
from takenup.serving import serves
from takenup.standing import Standing
from takenup.tables import differences
from takenup.takeups import take_up, takeable
from takenup.texts import text_of
from takenup.uses import uses

BEGUN = ("machine 1 1", "program x 0 ; on ; x 4", "begin machine 1 1 x 3 10 0 0")


class PlainDesk:
    """Answers lines by the functions and a control of its own."""

    def __init__(self):
        self.machine = self.program = self.control = None

    def answer(self, text):
        line = read_line(text)
        if line.name != "machine" and self.machine is None or line.name not in ("machine", "program") and self.program is None:
            raise Nothing()
        if line.name in ("step", "leap", "break", "take", "part", "resume", "over", "undo", "again", "where", "run", "stand", "tape"):
            if self.control is None:
                raise Nothing()
        answer = getattr(self, "do_" + line.name)(*line.things)
        return "ok" if answer is None else answer

    def do_machine(self, axes, zeros):
        self.machine, self.program, self.control = Machine(axes, zeros), None, None

    def do_program(self, program):
        need_fit(program.blocks, self.machine)
        self.program, self.control = program, None

    def do_begin(self, *things):
        self.control = Control(self.program, self.machine, *things)

    def do_step(self, place):
        marks = self.control.step(place)
        return " / ".join(str(mark) for mark in marks) if marks else "-"

    def do_leap(self, place):
        self.control.leap(place)

    def do_break(self, block):
        positions = {axis: number for axis, number in block.deed} if isinstance(block.deed, Move) else {}
        self.control.break_off(block.words if len(block.words) else None, **positions)

    def do_take(self, preamble):
        self.control.take_up(preamble)

    def do_part(self, many, preamble):
        self.control.take_up(preamble, many)

    def do_resume(self):
        return str(self.control.resume())

    def do_over(self, program):
        self.control.program = program
        self.program = program

    def do_undo(self):
        self.control.undo()
        self.program = self.control.program

    def do_again(self):
        self.control.again()
        self.program = self.control.program

    def do_where(self):
        return f"{self.control.place} {'broken' if self.control.is_broken else self.control.words}"

    def do_run(self):
        return " ".join(map(str, self.control.run))

    def do_stand(self):
        return str(self.control.stand)

    def do_tape(self):
        rows = []
        for row in self.control.tape:
            rows.append(f"{row.place} leap" if row.marks is None else str(row.place) + "".join(f" / {mark}" for mark in row.marks))
        return " ; ".join(rows) if rows else "-"

    def do_after(self, place):
        return " ".join(map(str, self.program.after(place))) or "-"

    def do_nodes(self, place):
        return " / ".join(str(words) for words, _ in arrivals(self.program, place))

    def do_difference(self, place, axis, one, other, words):
        number = differences(self.program, self.machine)(place, words, axis, one, other)
        return "unlike" if number is None else str(number)

    def do_tied(self, place, axis, words):
        return text_of(differences(self.program, self.machine).tied(place, words, axis))

    def do_greatest(self, place, axis, one, other):
        told = greatest(self.program, self.machine, place, axis, one, other)
        return str(told.number) if told else told.word

    def do_least(self, place, axis, one, other):
        told = least(self.program, self.machine, place, axis, one, other)
        return str(-told.number) if told else told.word

    def do_uses(self, place):
        return " ".join(uses(self.program, place)) or "-"

    def do_serves(self, place, target):
        return "yes" if serves(self.program, self.machine, place, target) else "no"

    def do_target(self, place):
        told = take_up(self.program, self.machine, place)
        return str(told.target) if told else "refused" + (f" {told.name}" if told.word == "refusedword" else "")

    def do_preamble(self, place):
        told = least_preamble(self.program, self.machine, place)
        return str(told.preamble) if told else "refused"

    def do_places(self):
        return " ".join(map(str, takeable(self.program, self.machine)))

    def do_paper(self, place):
        return text_of(take_up(self.program, self.machine, place))

    def do_shown(self, place, value):
        shown = [look(self.program, self.machine, place, value) for look in (shows_taken, shows_refused)]
        return "yes" if any(shown) else "no"

    def do_alike(self, program):
        return "yes" if alike(self.program, self.machine, program) else "no"

    def do_lean(self):
        return str(lean(self.program, self.machine))

    def do_back(self, place, other):
        told = way_back(self.program, self.machine, place, other)
        return str(told.taken.target) if told else told.reason

    def do_cuts(self, place, other):
        told = most_cuts(self.program, place, other)
        return "none" if told is None else str(told.number) if told else "endless"


def random_line(chance, machine, program, control, others):
    """A line, a right one mostly."""
    end = program.end if program else 3
    place, other = chance.randint(0, end + (chance.random() < 0.1)), chance.randint(0, end)
    if control is not None and program.after(control.place) and chance.random() < 0.85:
        step = chance.choice(program.after(control.place))
    else:
        step = place
    axis, (one, two) = chance.choice(machine.axes), [chance.choice(machine.registers) for _ in range(2)]
    if program and place <= end:
        words = chance.choice([words for words, _ in arrivals(program, place)])
    else:
        words = Standing.first().node_words
    if chance.random() < 0.1:
        axis, one, words = chance.choice("xyw"), "z3", Standing.read("on coarse zero 1 cut")
    preamble = random_preamble(chance, machine)
    full = str(random_words(chance, machine))
    block = Block(random_words(chance, machine) if chance.random() < 0.4 else None, Move(x=chance.randint(-9, 9)) if chance.random() < 0.5 else None)
    roll = chance.random()
    if control is not None and control.is_broken and roll < 0.4:
        return chance.choice([f"take {preamble}", f"part {chance.randint(0, 4)} {preamble}", "resume", "undo"])
    if program is None and roll < 0.3:
        return f"program {chance.choice(others)}"
    if roll < (0.45 if control else 0.2):
        return chance.choice([
            f"step {step}", f"step {step}", f"step {step}", f"leap {step}", f"break {block}", f"take {preamble}", f"part {chance.randint(0, 4)} {preamble}", "resume", "resume",
            f"over {chance.choice(others)}", "undo", "undo", "again", "where", "run", "stand", "tape",
        ])
    if roll < (0.48 if control else 0.6):
        return chance.choice([f"program {chance.choice(others)}", f"begin {random_stand(chance, machine)}", f"begin {random_stand(chance, machine)}", f"begin {random_stand(chance, machine)} {full}"])
    if 0.6 < roll < 0.61:
        return f"machine {len(machine.axes)} {machine.zeros}"
    return chance.choice([
        f"after {place}", f"nodes {place}", f"difference {place} {axis} {one} {two} {words}", f"tied {place} {axis} {words}", f"greatest {place} {axis} {one} {two}",
        f"least {place} {axis} {one} {two}", f"uses {place}", f"serves {place} {preamble.outcome(machine)}", f"target {place}", f"preamble {place}", "places",
        f"paper {place}", f"shown {place} none", f"alike {chance.choice(others)}", "lean", f"back {place} {other}", f"cuts {place} {other}",
    ])


def vars_of(error):
    return {name: value if not isinstance(value, ToolError) else (type(value), vars_of(value)) for name, value in vars(error).items()}


class DeskTest(Checks, unittest.TestCase):
    def check_bad_line(self, line, error, fields, work, *lines):
        with self.assertRaises(BadLine) as caught:
            work(*lines)
        told = caught.exception
        self.assertIs(BadLine, type(told))
        self.assertEqual((line, error, fields), (told.line, type(told.error), vars(told.error)))
        self.assertIs(told.error, told.__cause__)

    def test_example(self):
        desk = Desk()
        told = desk.told(*BEGUN, "step 1", "step 2", "where")
        self.assertEqual(("ok", "ok", "ok", "rapid 10", "-", "2 on fine zero 0 rapid tool 0 pace 0 still"), told)
        self.check_bad_line(2, Stopped, {"place": 2}, desk.told, "break x -99", "difference 2 x p z0 on fine zero 0 rapid", "step 9")
        self.assertEqual("2 on fine zero 0 rapid tool 0 pace 0 still", desk("where"))

    def check_same(self, plain, desk):
        self.assertEqual((plain.machine, plain.program), (desk.machine, desk.program))
        twin = desk.control_twin()
        self.assertIs(plain.control is None, twin is None)
        if twin is not None:
            one = plain.control
            for name in ("program", "machine", "place", "run", "stand", "is_broken", "tape", "words"):
                self.assertEqual(getattr(one, name), getattr(twin, name))

    def test_drawn_lines(self):
        chance = random.Random(811)
        done = {}
        for axes, zeros in ((1, 1), (2, 2), (3, 4)):
            machine = Machine(axes, zeros)
            for program in random_programs(812 + axes, 18, depth=3, axes=axes, zeros=zeros):
                others = [program, program, program_with_one_other_block(chance, program, axes, zeros), program + program if program.end < 20 else program]
                desk, plain = Desk(), PlainDesk()
                beginning = [str(machine), f"program {program}", f"begin {random_stand(chance, machine)}"]
                for line in beginning[:chance.choice([0, 1, 2, 3, 3, 3, 3, 3])]:
                    self.assertEqual(plain.answer(line), desk(line))
                for _ in range(30):
                    line = random_line(chance, machine, plain.program, plain.control, others)
                    self.do_line(plain, desk, line, done)
                self.check_lines(desk)
        for name in Line.DEEDS + Line.ASKS:
            self.assertGreater(done.get((name, "done"), 0), 2, (name, done))
        self.assertGreater(sum(many for (_, what), many in done.items() if what == "Nothing"), 20)
        self.assertTrue({"Nothing", "NoPlace", "Stopped", "Running", "NoNode", "NoAxis", "NoRegister", "BadProgram"} <= {what for _, what in done}, done)

    def do_line(self, plain, desk, line, done):
        name = line.split(" ")[0]
        before = desk.lines
        try:
            told = plain.answer(line)
        except ToolError as error:
            done[name, type(error).__name__] = done.get((name, type(error).__name__), 0) + 1
            for work in (desk.told, desk, desk.tried):
                with self.assertRaises(BadLine) as caught:
                    work(line)
                self.assertEqual((BadLine, 0), (type(caught.exception), caught.exception.line))
                self.assertEqual((type(error), vars_of(error)), (type(caught.exception.error), vars_of(caught.exception.error)))
            self.assertEqual(before, desk.lines)
        else:
            done[name, "done"] = done.get((name, "done"), 0) + 1
            self.assertEqual((told,), desk.tried(line))
            self.assertEqual(before, desk.lines)
            self.assertEqual(told, desk(line) if len(line) % 2 else desk.told(line)[0])
            self.assertEqual(before + (line,) if name in Line.DEEDS else before, desk.lines)
        self.check_same(plain, desk)

    def check_lines(self, desk):
        other = Desk()
        other.told(*desk.lines)
        self.assertTrue(desk == other and other == desk)
        self.assertEqual(desk.lines, other.lines)

    def test_ways_to_ask(self):
        desk = Desk()
        desk.told(*BEGUN, "step 1", "step 2")
        for line, answer in (
            ("after 0", "1"), ("after 3", "-"), ("nodes 2", "on fine zero 0 rapid"), ("difference 2 x p z0 on fine zero 0 rapid", "0"), ("uses 3", "-"),
            ("difference 2 x p o on fine zero 0 rapid", "unlike"), ("tied 2 x on fine zero 0 rapid", "[ [ [ 'p , 0 ] , [ 'z0 , 0 ] ] , [ [ 'o , 0 ] ] , [ [ 's , 0 ] ] ]"),
            ("greatest 3 x p z0", "20"), ("least 3 x z0 p", "-20"), ("greatest 3 x p s", "free"), ("uses 1", "unit zero way tool pace spindle"),
            ("uses 2", "reading unit zero way tool pace spindle"), ("serves 2 far fine rapid ; -", "yes"), ("serves 2 far fine ; -", "no"), ("target 2", "far fine rapid ; -"),
            ("preamble 2", "far fine rapid"), ("preamble 3", "nothing"), ("places", "0 1 2 3"), ("alike far x 0 ; on ; x 4", "yes"), ("alike x 1 ; on ; x 4", "no"),
            ("lean", "x 0 ; - ; x 4"), ("back 2 0", "far fine rapid ; -"), ("back 0 2", "missed"), ("cuts 3 0", "0"), ("cuts 0 3", "none"), ("run", "0 1 2"), ("tape", "0 / rapid 10 ; 1"),
            ("stand", "machine 1 1 x 10 10 0 0"), ("where", "2 on fine zero 0 rapid tool 0 pace 0 still"),
        ):
            self.assertEqual(answer, desk(line), line)
        self.assertEqual("yes", desk("shown 2 " + desk("paper 2")))
        self.assertEqual("no", desk("shown 1 " + desk("paper 2")))
        desk.told("machine 1 1", "program skip ( cut ) ; round ( x 1 ) ; here x 0 ; lay x 1 ; x 1")
        self.assertEqual(("refused way", "refused", "endless"), desk.told("target 1", "preamble 1", "cuts 5 0"))
        self.assertEqual(("yes", "zero"), desk.told("shown 1 " + desk("paper 1"), "back 5 1"))
        rising = Desk()
        rising.told("machine 1 1", "program x 0 ; round ( on x 1 )")
        self.assertEqual(("rising", "5", "free"), rising.told("greatest 1 x p z0", "least 2 x p z0", "least 1 x p o"))
        rising.told("program skip ( here x 0 ) ; on ; x 1 ; far x 0")
        self.assertEqual(("refused", "refused", "yes"), rising.told("target 2", "preamble 2", "shown 2 " + rising("paper 2")))

    def test_tapes(self):
        desk = Desk()
        desk.told("machine 2 1", "program told 2 ( cut x 1 ) ; rapid y 1 ; here x 0 ; x 1", "begin machine 2 1 x 0 0 0 0 y 0 0 0 0")
        self.assertEqual("-", desk("tape"))
        self.assertEqual(("cut 0 0 to 5 0 tool 0 pace 0 still / cut 5 0 to 5 0 tool 0 pace 0 still", "ok", "-", "rapid 10 5"), desk.told(
            "step 1", "leap 2", "step 3", "step 4"))
        self.assertEqual("0 / cut 0 0 to 5 0 tool 0 pace 0 still / cut 5 0 to 5 0 tool 0 pace 0 still ; 1 leap ; 2 ; 3 / rapid 10 5", desk("tape"))
        self.assertEqual("0 1 2 3 4", desk("run"))

    def test_breaks(self):
        desk = Desk()
        desk.told(*BEGUN, "step 1")
        self.assertEqual(("ok", "1 broken", "machine 1 1 x -99 10 0 0"), desk.told("break x -99", "where", "stand"))
        self.assertEqual(("ok", "1 broken", "ok", "1 broken", "ok"), desk.told(
            "break -", "where", "part 1 rapid touch x", "where", "take rapid touch x"))
        self.assertEqual("1 far fine zero 0 rapid tool 0 pace 0 still", desk("where"))
        self.assertEqual("machine 1 1 x 0 10 0 0", desk("stand"))
        self.assertEqual(("ok", desk("preamble 1")), desk.tried("break -", "resume"))
        self.check_bad_line(0, BadWords, {"part": "words"}, desk.told, "break far")
        self.check_bad_line(0, NoAxis, {"axis": "y"}, desk.told, "break x 5 y 5")
        self.check_bad_line(0, Running, {"place": 1}, desk.told, "resume")
        words = "on coarse zero 0 cut tool 1 pace 2 turning"
        self.assertEqual(("ok", "ok", f"1 {words}", "machine 1 1 x 3 10 0 0"), desk.told(f"break {words} x 3", "take nothing", "where", "stand"))

    def test_programs_of_the_control(self):
        desk = Desk()
        desk.told(*BEGUN, "step 1", "over far x 0 ; on ; x 4")
        self.assertEqual(("far x 0 ; on ; x 4", "ok"), (str(desk.program), desk("undo")))
        self.assertEqual(("x 0 ; on ; x 4", "ok"), (str(desk.program), desk("again")))
        self.assertEqual("far x 0 ; on ; x 4", str(desk.program))
        self.check_bad_line(0, BadProgram, {"part": "alike"}, desk.told, "over x 0 ; on ; x 4")
        self.check_bad_line(1, BadProgram, {"part": "shape"}, desk.told, "undo", "over x 0")
        self.assertEqual("far x 0 ; on ; x 4", str(desk.program))
        self.assertEqual(("machine", "program", "begin", "step", "over", "undo", "again"), tuple(line.split(" ")[0] for line in desk.lines))

    def test_nothing(self):
        """Ahead of all else, without a machine, a program or a control."""
        samples = {
            "program": "y 1", "begin": "machine 3 3 x 0 0 0 0 0 0 y 0 0 0 0 0 0 w 0 0 0 0 0 0", "step": "40", "leap": "40", "break": "y 5", "take": "zero 3", "part": "9 -", "over": "y 1",
            "after": "40", "nodes": "40", "difference": "40 w z3 z3 on fine zero 3 cut", "tied": "40 w on fine zero 3 cut", "greatest": "40 w z3 z3", "least": "40 w z3 z3", "uses": "40",
            "serves": "40 - ; w z3", "target": "40", "preamble": "40", "paper": "40", "shown": "40 none", "alike": "y 1 ; y 2", "back": "40 40", "cuts": "40 40",
        }
        lines = {name: f"{name} {samples[name]}" if name in samples else name for name in Line.DEEDS + Line.ASKS if name != "machine"}
        desk = Desk()
        for line in lines.values():
            self.check_bad_line(0, Nothing, {}, desk.told, line)
            self.check_bad_line(0, Nothing, {}, desk, line)
            self.check_bad_line(0, Nothing, {}, desk.tried, line)
        desk("machine 1 1")
        for name, line in lines.items():
            if name != "program":
                self.check_bad_line(0, Nothing, {}, desk.told, line)
        self.check_bad_line(0, BadMachine, {"part": "fit"}, desk.told, lines["program"])
        desk("program x 1")
        for name in ("step", "leap", "break", "take", "part", "resume", "over", "undo", "again", "where", "run", "stand", "tape"):
            self.check_bad_line(0, Nothing, {}, desk.told, lines[name])
        for name in ("after", "nodes", "greatest", "least", "uses", "serves", "target", "preamble", "paper", "shown", "back", "cuts"):
            self.check_bad_line(0, NoPlace, {"place": 40}, desk.told, lines[name])
        words = Standing.read("on fine zero 3 cut")
        self.check_bad_line(0, NoNode, {"place": 40, "words": words}, desk.told, lines["difference"])
        self.check_bad_line(0, NoNode, {"place": 40, "words": words}, desk.told, lines["tied"])
        self.check_bad_line(0, BadStand, {"part": "stand"}, desk.told, lines["begin"])
        self.check_bad_line(0, BadProgram, {"part": "shape"}, desk.told, lines["alike"])
        desk("begin machine 1 1 x 0 0 0 0")
        for again in ("program x 1", "machine 1 1"):
            desk.told("machine 1 1", "program x 1", "begin machine 1 1 x 0 0 0 0", again)
            self.assertIsNone(desk.control_twin())
            self.check_bad_line(0, Nothing, {}, desk.told, "where")
        self.assertEqual((Machine(1, 1), None), (desk.machine, desk.program))

    def test_what_is_raised(self):
        desk = Desk()
        desk.told(*BEGUN)
        node = "on fine zero 0 rapid"
        for line, error, fields in (
            ("step 2", NoPlace, {"place": 2}), ("take rapid home x", Running, {"place": 0}), ("undo", Nothing, {}), ("again", Nothing, {}), ("after 4", NoPlace, {"place": 4}),
            ("serves 2 - ; y o", BadTarget, {"part": "fit"}), (f"difference 2 y p p {node}", NoAxis, {"axis": "y"}), (f"difference 2 x z1 p {node}", NoRegister, {"name": "z1"}),
            (f"difference 2 x p z2 {node}", NoRegister, {"name": "z2"}), (f"tied 2 w {node}", NoAxis, {"axis": "w"}), ("greatest 2 x p z1", NoRegister, {"name": "z1"}),
            ("least 2 x z2 z1", NoRegister, {"name": "z2"}), ("back 2 2", NoPlace, {"place": 2}), ("cuts 4 9", NoPlace, {"place": 4}), ("cuts 2 9", NoPlace, {"place": 9}),
            ("alike x 1", BadProgram, {"part": "shape"}), ("alike y 0 ; on ; x 4", BadMachine, {"part": "fit"}), ("program y 1", BadMachine, {"part": "fit"}),
            ("begin machine 1 2 x 0 0 0 0 0", BadStand, {"part": "stand"}), ("begin machine 1 1 x 0 0 0 0 on fine zero 1 cut tool 0 pace 0 still", BadWords, {"part": "words"}),
            ("nodes 4", NoPlace, {"place": 4}), ("over x 1", BadProgram, {"part": "shape"}),
        ):
            before = desk.lines
            self.check_bad_line(0, error, fields, desk.told, line)
            self.check_bad_line(1, error, fields, desk.told, "where", line, "where")
            self.check_bad_line(3, error, fields, desk.tried, "where", "run", "tape", line)
            self.assertEqual(before, desk.lines)
        desk("break x 5")
        self.check_bad_line(0, BadTarget, {"part": "many"}, desk.told, "part 2 rapid home x")
        self.check_bad_line(0, BadPreamble, {"at": 1}, desk.told, "take - ; zero 1")
        self.check_bad_line(1, Stopped, {"place": 0}, desk.told, "run", "over x 1")
        desk.told("machine 1 1", "program told 10001 ( x 1 )", "begin machine 1 1 x 0 0 0 0")
        self.check_bad_line(0, TooMany, {"what": "turns", "most": 10000}, desk.told, "step 1")
        self.assertEqual("ok", desk("leap 1"))
        long = "9" * 59
        desk.told("machine 1 1", f"program x 0 ; told 1000000000000 ( on x {long} ) ; far x 0")
        self.check_bad_line(0, BadPaper, {"part": "value"}, desk.told, "tied 2 x on fine zero 0 rapid")

    def test_texts_are_read_first(self):
        desk = Desk()
        for lines, line, word in (
            (("where", "q"), 1, 0), (("step 1", "machine 1 1", "step 41"), 2, 1), ((5,), 0, 0), (("machine 1 1", None), 1, 0), (("undo", "machine 1 1 1"), 1, 3), ((["where"],), 0, 0),
            (("step 1 ", "q"), 0, 2),
        ):
            self.check_error(BadText, {"line": line, "word": word}, desk.told, *lines)
            self.check_error(BadText, {"line": line, "word": word}, desk.tried, *lines)
        for value in wrong_values(lambda value: isinstance(value, str)):
            self.check_error(BadText, {"line": 0, "word": 0}, desk, value)
            self.check_error(BadText, {"line": 1, "word": 0}, desk.told, "machine 1 1", value)
        self.assertEqual(((), None), (desk.lines, desk.machine))
        self.assertEqual(((), ()), (desk.told(), desk.tried()))

    def test_an_error_leaves_all_as_it_was(self):
        chance = random.Random(815)
        for program in random_programs(816, 15, depth=3, axes=2):
            machine = Machine(2, 2)
            desk = Desk()
            desk.told(str(machine), f"program {program}", f"begin {random_stand(chance, machine)}")
            for _ in range(5):
                twin = desk.control_twin()
                lines, plain = [], PlainDesk()
                plain.machine, plain.program, plain.control = desk.machine, desk.program, desk.control_twin()
                while len(lines) < 6:
                    line = random_line(chance, machine, plain.program, plain.control, [program])
                    try:
                        plain.answer(line)
                        lines.append(line)
                    except ToolError:
                        pass
                before = Desk()
                before.told(*desk.lines)
                with self.assertRaises(BadLine) as caught:
                    desk.told(*lines, "after 40")
                self.assertEqual(6, caught.exception.line)
                with self.assertRaises(BadText):
                    desk.told(*lines, "q")
                answers = desk.tried(*lines)
                self.assertTrue(desk == before)
                self.assertEqual(before.lines, desk.lines)
                if twin is not None:
                    now = desk.control_twin()
                    self.assertEqual((twin.run, twin.tape, twin.words), (now.run, now.tape, now.words))
                self.assertEqual(answers, desk.told(*lines))
                self.check_same(plain, desk)
                if plain.control is None:
                    break

    def test_equality(self):
        def desk_of(*lines):
            desk = Desk()
            desk.told(*lines)
            return desk
        self.assertTrue(Desk() == Desk() and not Desk() != Desk())
        rows = [
            (), BEGUN[:1], BEGUN[:2], BEGUN, ("machine 1 2",), ("machine 1 1", "program x 0 ; on ; x 5"), BEGUN + ("step 1",), BEGUN + ("leap 1",), BEGUN + ("break -",), BEGUN + ("break x 9",),
            BEGUN + ("break -", "take cut"), BEGUN + ("step 1", "break -"), (*BEGUN[:2], "begin machine 1 1 x 3 11 0 0"), BEGUN + ("over far x 0 ; on ; x 4",), BEGUN + ("step 1", "step 2"),
            (*BEGUN[:2], "begin machine 1 1 x 3 10 0 0 far fine zero 0 rapid tool 0 pace 1 still"),
        ]
        desks = [desk_of(*lines) for lines in rows]
        for at, desk in enumerate(desks):
            for other_at, other in enumerate(desks):
                self.assertIs(at == other_at, desk == other, (rows[at], rows[other_at]))
        for one, other in (
            (BEGUN, BEGUN + ("step 1", "undo")), (BEGUN, BEGUN + ("break x 3", "take nothing")), (BEGUN + ("break -",), BEGUN + ("break on fine zero 0 cut tool 1 pace 1 turning",)),
            (BEGUN, ("machine 2 2", *BEGUN)), (BEGUN[:2], BEGUN + ("program x 0 ; on ; x 4",)), (BEGUN + ("break -",), BEGUN + ("break x 9", "break x 3")),
            (BEGUN + ("break -", "take -"), BEGUN), (BEGUN + ("break -", "part 1 tool 3"), BEGUN + ("break -", "part 0 tool 3")), (BEGUN, BEGUN + ("over x 0 ; on ; x 4",)),
        ):
            self.assertTrue(desk_of(*one) == desk_of(*other) and desk_of(*other) == desk_of(*one), (one, other))
        skips = ("machine 1 1", "program x 0 ; skip ( x 1 ) ; x 2", "begin machine 1 1 x 3 10 0 0")
        for one, other in ((("step 1",), ("step 2",)), (("leap 1",), ("leap 2",)), ((), ("step 1",))):
            self.assertFalse(desk_of(*skips, *one) == desk_of(*skips, *other))
        for value in any_values():
            self.assertIs(isinstance(value, Desk), Desk() == value)
        self.assertFalse(desk_of(*BEGUN) == desk_of(*BEGUN).lines or desk_of(*BEGUN) == desk_of(*BEGUN).control_twin())

    def test_twins_change_nothing(self):
        desk = Desk()
        desk.told(*BEGUN)
        twin, other = desk.control_twin(), desk.control_twin()
        twin.step(1)
        twin.break_off(x=7)
        self.assertEqual(("0", "0 far fine zero 0 rapid tool 0 pace 0 still"), desk.told("run", "where"))
        self.assertEqual((0, False), (other.place, other.is_broken))
        desk("step 1")
        self.assertEqual((0, 1), (other.place, twin.place))
        self.assertFalse(other == desk.control_twin())
        twin = desk.control_twin()
        twin.undo()
        self.assertEqual(0, twin.place)
        self.assertEqual("0 1", desk("run"))

    def test_interface(self):
        for name in ("__init__", "told", "__call__", "tried", "control_twin", "__eq__"):
            self.assertIn(name, vars(Desk))
        desk = Desk()
        self.assertEqual((None, None, (), None), (desk.machine, desk.program, desk.lines, desk.control_twin()))
        self.assertIs(tuple, type(desk.told(*BEGUN)))
        self.assertEqual(BEGUN, desk.lines)
        self.assertEqual((Machine(1, 1), "x 0 ; on ; x 4"), (desk.machine, str(desk.program)))
        self.assertEqual(5, read_value("5"))


if __name__ == "__main__":
    unittest.main()
