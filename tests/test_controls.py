import random
import unittest

from acts import random_act, random_preamble, random_stand, random_words, tried_act
from kinds import Checks, is_integer, random_programs, wrong_values
from plain_control import PlainControl, check_act, compare
from side_by_side import program_with_one_other_block
from takenup.alike import alike_at
from takenup.blocks import Block
from takenup.controls import Control
from takenup.errors import (
    BadMachine, BadPreamble, BadProgram, BadStand, BadTarget, BadWords, NoAxis, NoPlace, Nothing, Running, Stopped, ToolError,
    TooMany,
)
from takenup.items import Told
from takenup.least import least_preamble
from takenup.machines import Machine
from takenup.marks import Mark
from takenup.places import runs_of
from takenup.preambles import Preamble
from takenup.programs import Program
from takenup.serving import serves
from takenup.standing import Standing, values_of
from takenup.stands import Stand
from takenup.tapes import Row, Tape

PATH = Program.read("x 0 ; on ; round ( x 4 ; here x 0 )")
ONE = Machine(1, 1)
FIRST = Standing.first()


class ActsTest(Checks, unittest.TestCase):
    def test_example(self):
        control = Control(PATH, ONE, Stand(ONE, x={"z0": 10}))
        done = [control.step(1), control.step(2), control.break_off(x=-99)]
        self.assertEqual([3, (30,), None, 2], [len(control.resume()), control.step(3)[0].ends, control.undo(), control.place])
        self.assertEqual([(Mark("rapid", (10,)),), (), None], done)

    def test_rows_of_acts(self):
        chance = random.Random(711)
        done = {}
        for axes, zeros in ((1, 1), (2, 2), (3, 4)):
            machine = Machine(axes, zeros)
            for program in random_programs(711 + axes, 30, depth=3, axes=axes, zeros=zeros):
                others = [program, program] + [program_with_one_other_block(chance, program, axes, zeros) for _ in range(3)]
                others += [Program(Block()), program + Program(Block()), Program.read("w 1"), Program.read("zero 3")]
                words = None if chance.random() < 0.8 else random_words(chance, machine)
                start = chance.choice([None, *program.starts])
                stand = random_stand(chance, machine)
                plain, control = PlainControl(program, machine, stand, words, start), Control(program, machine, stand, words, start)
                compare(self, plain, control)
                for _ in range(40):
                    act = random_act(chance, control, others)
                    told = tried_act(self, plain, control, act)
                    key = (act[0], type(told).__name__ if isinstance(told, ToolError) else "done")
                    done[key] = done.get(key, 0) + 1
        for name in ("step", "leap", "break_off", "take_up", "resume", "go_over", "undo", "again"):
            self.assertGreater(done.get((name, "done"), 0), 15, (name, done))
        for key in (
            ("step", "Stopped"), ("step", "Nothing"), ("step", "NoPlace"), ("break_off", "BadWords"), ("break_off", "NoAxis"),
            ("take_up", "Running"), ("take_up", "BadPreamble"), ("take_up", "BadTarget"), ("resume", "Running"), ("resume", "BadTarget"),
            ("go_over", "Stopped"), ("go_over", "BadProgram"), ("go_over", "BadMachine"), ("undo", "Nothing"), ("again", "Nothing"),
        ):
            self.assertGreater(done.get(key, 0), 0, (key, done))

    def test_undo_through_all_states(self):
        chance = random.Random(712)
        for program in random_programs(713, 25, depth=3, axes=2):
            machine = Machine(2, 2)
            stand = random_stand(chance, machine)
            plain, control = PlainControl(program, machine, stand), Control(program, machine, stand)
            for _ in range(25):
                act = random_act(chance, control, [program])
                if act[0] not in ("undo", "again"):
                    tried_act(self, plain, control, act)
            many = len(plain.before)
            for name, times in (("undo", many), ("again", many), ("undo", many // 2), ("again", many // 4)):
                for _ in range(times):
                    self.assertIsNone(check_act(self, plain, control, name))
            tried_act(self, plain, control, ("break_off", (), {"x": 5}))
            self.check_error(Nothing, {}, control.again)
            while plain.before:
                check_act(self, plain, control, "undo")
            self.check_error(Nothing, {}, control.undo)
            compare(self, plain, control)

    def test_beginnings(self):
        program = Program.read("skip ( x 1 ; skip ( on ) ) ; skip ( x 2 )")
        self.assertEqual((0, 2, 3), program.starts)
        stand = Stand(ONE, x={"p": 4})
        for start, place in ((None, 0), (0, 0), (2, 2), (3, 3)):
            control = Control(program, ONE, stand, None, start)
            self.assertEqual((place, (place,), FIRST, stand, False, Tape(), program, ONE), (
                control.place, control.run, control.words, control.stand, control.is_broken, control.tape, control.program,
                control.machine,
            ))
        words = Standing.read("on coarse zero 0 cut tool 3 pace 4 turning")
        control = Control(program, ONE, stand, words, 2)
        self.assertEqual((Mark("cut", (258,), (4,), 3, 4, "turning"),), control.step(3))
        self.check_error(Nothing, {}, control.step, 0)
        self.check_error(Nothing, {}, control.leap, 0)

    def test_a_control_equals_itself_alone(self):
        control = Control(PATH, ONE, Stand(ONE))
        self.assertTrue(control == control)
        self.assertFalse(control == Control(PATH, ONE, Stand(ONE)) or control == control.twin())
        for name in ("__init__", "step", "leap", "break_off", "take_up", "resume", "go_over", "undo", "again", "twin"):
            self.assertIn(name, vars(Control))

    def test_ten_thousand_turns(self):
        for many, inner in ((10000, "x 1"), (10001, "x 1"), (100, "told 99 ( x 1 )"), (101, "told 99 ( x 1 )"), (99, "told 101 ( lay x 1 )")):
            program = Program.read(f"told {many} ( {inner} ) ; x 1")
            control = Control(program, ONE, Stand(ONE))
            turns = many if inner == "x 1" else many * (1 + program[0].members[0].count)
            if turns > 10000:
                self.check_error(TooMany, {"what": "turns", "most": 10000}, control.step, 1)
                self.check_error(NoPlace, {"place": 0}, control.step, 0)
                self.assertEqual((0, Tape()), (control.place, control.tape))
            else:
                marks = control.step(1)
                self.assertEqual(many if inner == "x 1" else 9900, len(marks))
            twin = Control(program, ONE, Stand(ONE))
            self.assertIsNone(twin.leap(1))
            self.assertEqual((1, None), (twin.place, twin.tape[0].marks))

    def test_leaps_of_great_tolds(self):
        program = Program.read("told 1000000000000 ( on x 1 ; told 1000000000000 ( lay x 1 ) ) ; far x 0")
        self.assertIsInstance(program[0], Told)
        control = Control(program, ONE, Stand(ONE, x={"p": 3, "z0": 7}))
        self.assertIsNone(control.leap(1))
        self.assertEqual(7 + 5 * 10 ** 24, control.stand["x", "z0"])
        self.assertEqual((3 + 5 * 10 ** 12, "on fine zero 0 rapid tool 0 pace 0 still"), (control.stand["x", "p"], str(control.words)))
        self.assertEqual(Tape(Row(0, None, ((7 + 5 * 10 ** 24,),))), control.tape)
        self.assertEqual((Mark("rapid", (7 + 5 * 10 ** 24,)),), control.step(2))
        self.assertEqual(((Mark("rapid", (7 + 5 * 10 ** 24,)),), (0, 1)), (control.tape.marks, control.tape.places))

    def test_leaps_stand_as_steps(self):
        chance = random.Random(714)
        for program in random_programs(715, 40, depth=3, axes=2):
            machine = Machine(2, 2)
            stand = random_stand(chance, machine)
            one, other = Control(program, machine, stand), Control(program, machine, stand)
            for _ in range(8):
                if one.place != program.end:
                    place = chance.choice(program.after(one.place))
                    one.step(place)
                    other.leap(place)
                    self.assertEqual((one.stand, one.words, one.run), (other.stand, other.words, other.run))
                    self.assertEqual([row.zeros for row in one.tape], [row.zeros for row in other.tape])
            self.assertTrue(all(row.marks is None for row in other.tape))


class BreaksTest(Checks, unittest.TestCase):
    def test_hands(self):
        control = Control(PATH, ONE, Stand(ONE, x={"p": 1, "z0": 2, "o": 3, "s": 4}))
        control.step(1)
        self.assertIsNone(control.break_off())
        self.assertEqual((True, None, 1, (0, 1)), (control.is_broken, control.words, control.place, control.run))
        self.assertEqual(Stand(ONE, x={"p": 2, "z0": 2, "o": 3, "s": 4}), control.stand)
        control.break_off(Standing.read("on coarse zero 0 cut tool 1 pace 2 turning"), x=77)
        self.assertEqual((True, None, Stand(ONE, x={"p": 77, "z0": 2, "o": 3, "s": 4})), (control.is_broken, control.words, control.stand))
        for work, args in ((control.step, (2,)), (control.leap, (2,)), (control.step, (99,)), (control.go_over, (PATH,)), (control.go_over, (9,))):
            self.check_error(Stopped, {"place": 1}, work, *args)
        control.take_up(Preamble())
        self.assertEqual("on coarse zero 0 cut tool 1 pace 2 turning", str(control.words))
        self.assertEqual(1, len(control.tape))
        self.check_error(Running, {"place": 1}, control.take_up, 9, 9)
        self.check_error(Running, {"place": 1}, control.resume)

    def test_parts_of_preambles(self):
        """Just so many blocks; the control stays broken, also if these are all."""
        preamble = Preamble.read("far fine zero 0 rapid x 3 ; on x 1 ; home x ; cut")
        for many in range(5):
            control = Control(PATH, ONE, Stand(ONE, x={"p": 100, "z0": 10, "o": -7}))
            control.break_off()
            self.assertIsNone(control.take_up(preamble, many))
            self.assertEqual((True, None, 0), (control.is_broken, control.words, len(control.tape)))
            self.assertEqual([100, 25, 30, -7, -7][many], control.stand["x", "p"])
            for wrong in (-1, 5, True, False, "1", 10 ** 30, 2.0, [1]):
                self.check_error(BadTarget, {"part": "many"}, control.take_up, preamble, wrong)
            control.take_up(Preamble())
            self.assertEqual(["far", "far", "on", "on", "on"][many], control.words.reading)
            self.assertEqual("cut" if many == 4 else "rapid", control.words.way)
        control = Control(PATH, ONE, Stand(ONE))
        control.break_off()
        control.take_up(preamble)
        self.assertFalse(control.is_broken)

    def test_marks_of_preambles_do_not_count(self):
        control = Control(PATH, ONE, Stand(ONE))
        control.break_off()
        control.take_up(Preamble.read("far fine zero 0 rapid x 3 ; x 4 ; home x"))
        self.assertEqual(((), ()), (control.tape.marks, control.tape.rows))

    def test_whole_whether_or_not_it_serves(self):
        control = Control(PATH, ONE, Stand(ONE, x={"z0": 10}))
        control.step(1)
        control.break_off(x=1000)
        preamble = Preamble.read("on coarse rapid touch x")
        self.assertFalse(serves(PATH, ONE, 1, preamble.outcome(ONE)))
        control.take_up(preamble)
        self.assertEqual((False, "on coarse zero 0 rapid tool 0 pace 0 still", 0), (control.is_broken, str(control.words), control.stand["x", "p"]))
        control.step(2)
        self.assertEqual(508, control.step(3)[0].ends[0])

    def test_never_broken(self):
        """However often it is broken, also within preambles, it has the tape of one that was never broken."""
        chance = random.Random(721)
        breaks = refused = 0
        for axes, zeros in ((1, 1), (2, 2)):
            machine = Machine(axes, zeros)
            for program in random_programs(722 + axes, 60, depth=3, axes=axes, zeros=zeros):
                for run in chance.sample(list(runs_of(program, 5))[:60], 1):
                    stand = random_stand(chance, machine)
                    one, other = Control(program, machine, stand, None, run[0]), Control(program, machine, stand, None, run[0])
                    for place in run[1:]:
                        leaps = chance.random() < 0.2
                        for _ in range(chance.choice([0, 0, 1, 1, 2])):
                            told = least_preamble(program, machine, other.place)
                            if not told:
                                refused += not other.is_broken
                                other.break_off(x=5)
                                before = (other.stand, other.run, other.is_broken)
                                self.check_error(BadTarget, {"part": "refused"}, other.resume)
                                self.assertEqual(before, (other.stand, other.run, other.is_broken))
                                other.undo()
                                continue
                            breaks += 1
                            self.break_and_take_up(chance, other, told.preamble)
                        for control in (one, other):
                            (control.leap if leaps else control.step)(place)
                    self.assertEqual((one.tape, one.run), (other.tape, other.run))
        self.assertTrue(breaks > 60 and refused > 20, (breaks, refused))

    def break_and_take_up(self, chance, control, preamble):
        machine = control.machine
        positions = {axis: chance.randint(-999, 999) for axis in machine.axes if chance.random() < 0.7}
        control.break_off(chance.choice([None, random_words(chance, machine)]), **positions)
        while chance.random() < 0.5:
            control.take_up(preamble, chance.randint(0, len(preamble.blocks)))
            if chance.random() < 0.5:
                control.break_off(random_words(chance, machine), x=chance.randint(-999, 999))
        if chance.random() < 0.5:
            self.assertEqual(preamble, control.resume())
        else:
            control.take_up(random_preamble(chance, machine) + preamble)

    def test_refused(self):
        program = Program.read("skip ( here x 0 ) ; on ; x 1 ; far x 0")
        control = Control(program, ONE, Stand(ONE), None, 1)
        control.step(2)
        control.break_off(x=3)
        self.check_error(BadTarget, {"part": "refused"}, control.resume)
        self.assertEqual((True, 3, 2), (control.is_broken, control.stand["x", "p"], control.place))
        control.undo()
        self.assertFalse(control.is_broken)
        control.again()
        self.assertTrue(control.is_broken)


class GoingOverTest(Checks, unittest.TestCase):
    def test_where_alike_at_tells_alike(self):
        chance = random.Random(731)
        found = []
        for axes in (1, 2):
            machine = Machine(axes, 2)
            for program in random_programs(732 + axes, 60, depth=3, axes=axes):
                for _ in range(4):
                    other = program_with_one_other_block(chance, program, axes, 2)
                    control = Control(program, machine, random_stand(chance, machine))
                    for _ in range(chance.randint(0, 3)):
                        if control.place != program.end:
                            control.step(chance.choice(program.after(control.place)))
                    before = (control.place, control.words, control.stand, control.run, control.tape)
                    told = alike_at(program, machine, other, control.place, control.words)
                    found.append(bool(told))
                    if told:
                        self.go_over(chance, control, other)
                        self.assertEqual(other, control.program)
                        self.check_error(BadProgram, {"part": "alike"}, control.go_over, other)
                        self.check_same_marks(chance, program, control)
                    else:
                        self.check_error(BadProgram, {"part": "alike"}, self.go_over, chance, control, other)
                        self.assertEqual(program, control.program)
                        self.assertEqual(before, (control.place, control.words, control.stand, control.run, control.tape))
        self.assertTrue(found.count(True) > 60 and found.count(False) > 60, found)

    def go_over(self, chance, control, other):
        if chance.random() < 0.5:
            control.program = other
        else:
            self.assertIsNone(control.go_over(other))

    def check_same_marks(self, chance, program, control):
        """Its steps tell the marks and zeros that the elder program would have told."""
        twin = control.twin()
        twin.undo()
        self.assertEqual(program, twin.program)
        for _ in range(5):
            if control.place != program.end:
                place = chance.choice(program.after(control.place))
                self.assertEqual(twin.step(place), control.step(place))
        self.assertEqual(twin.tape, control.tape)

    def test_each_reason(self):
        """Begun with other words, broken, gone over; and nothing else. What was taken back does not count."""
        other = PATH.with_block(0, Block.read("far x 0"))
        work = {"part": "alike"}
        Control(PATH, ONE, Stand(ONE)).go_over(other)
        Control(PATH, ONE, Stand(ONE), FIRST).go_over(PATH)
        for name in Standing.NAMES:
            if name != "zero":
                words = FIRST.with_word(name, values_of(name, ONE)[-1])
                control = Control(PATH, ONE, Stand(ONE), words)
                self.check_error(BadProgram, work, control.go_over, PATH)
        control = Control(PATH, ONE, Stand(ONE))
        control.break_off()
        control.take_up(Preamble())
        self.assertEqual(FIRST, control.words)
        self.check_error(BadProgram, work, control.go_over, PATH)
        control.undo()
        self.check_error(Stopped, {"place": 0}, control.go_over, PATH)
        control.undo()
        control.go_over(other)
        self.check_error(BadProgram, work, control.go_over, PATH)
        control.undo()
        control.program = PATH
        self.check_error(BadProgram, work, control.go_over, PATH)
        self.assertEqual(PATH, control.program)

    def test_too_many_is_not_alike(self):
        many = " ; ".join(f"skip ( {text} )" for text in ["cut", "turning", *[f"pace {at}" for at in range(1, 13)], *[f"tool {at}" for at in range(1, 9)]])
        program = Program.read(f"- ; round ( {many} ) ; x 1")
        machine = Machine(1, 4)
        self.check_error(TooMany, {"what": "nodes", "most": 2000}, alike_at, program, machine, program, 0, FIRST)
        control = Control(program, machine, Stand(machine))
        self.check_error(BadProgram, {"part": "alike"}, control.go_over, program)
        self.check_error(BadProgram, {"part": "alike"}, setattr, control, "program", program)
        self.assertEqual((program, 0), (control.program, control.place))

    def test_order_of_errors(self):
        control = Control(PATH, Machine(1, 2), Stand(Machine(1, 2)))
        for work in (control.go_over, lambda value: setattr(control, "program", value)):
            for value in wrong_values(lambda value: isinstance(value, Program)):
                self.check_error(BadProgram, {"part": "program"}, work, value)
            for text in ("y 1", "zero 2", "x 0 ; on ; round ( y 4 ; here x 0 )"):
                self.check_error(BadMachine, {"part": "fit"}, work, Program.read(text))
            for text in ("x 1", "x 0 ; on ; x 4 ; here x 0", "x 0 ; on ; round ( x 4 ) ; here x 0"):
                self.check_error(BadProgram, {"part": "shape"}, work, Program.read(text))


class TwinsTest(Checks, unittest.TestCase):
    def test_twins(self):
        chance = random.Random(741)
        for program in random_programs(742, 25, depth=3, axes=2):
            machine = Machine(2, 2)
            stand = random_stand(chance, machine)
            plain, control = PlainControl(program, machine, stand), Control(program, machine, stand)
            for _ in range(15):
                tried_act(self, plain, control, random_act(chance, control, [program]))
            twin = control.twin()
            self.assertIs(Control, type(twin))
            self.assertFalse(twin == control)
            compare(self, plain, twin)
            other = plain.twin()
            for _ in range(15):
                tried_act(self, other, twin, random_act(chance, twin, [program]))
                compare(self, plain, control)
            for _ in range(10):
                tried_act(self, plain, control, random_act(chance, control, [program]))
                compare(self, other, twin)

    def test_what_is_returned_may_be_changed(self):
        control = Control(PATH, ONE, Stand(ONE))
        control.step(1)
        self.assertEqual((tuple, tuple), (type(control.run), type(control.tape.rows)))
        numbers = control.stand.numbers("x")
        numbers["p"] = 99
        self.assertEqual(0, control.stand["x", "p"])
        run = control.run
        control.step(2)
        self.assertEqual(((0, 1), (0, 1, 2)), (run, control.run))


class ErrorsTest(Checks, unittest.TestCase):
    def test_making_a_control(self):
        machine = Machine(1, 2)
        for value in wrong_values(lambda value: isinstance(value, Program)):
            self.check_error(BadProgram, {"part": "program"}, Control, value, 9, 9, 9, 9)
        for value in wrong_values(lambda value: isinstance(value, Machine)):
            self.check_error(BadMachine, {"part": "machine"}, Control, PATH, value, 9, 9, 9)
        self.check_error(BadMachine, {"part": "fit"}, Control, Program.read("y 1"), machine, 9, 9, 9)
        for value in wrong_values(lambda value: isinstance(value, Stand) and value.machine == machine) + [Stand(Machine(1, 1)), Stand(Machine(2, 2))]:
            self.check_error(BadStand, {"part": "stand"}, Control, PATH, machine, value, 9, 9)
        stand = Stand(machine)
        strange = [Standing(), FIRST.with_word("pace", None), FIRST.with_word("zero", 2)]
        for value in wrong_values(lambda value: value is None or isinstance(value, Standing) and value == FIRST) + strange:
            self.check_error(BadWords, {"part": "words"}, Control, PATH, machine, stand, value, 9)
        for value in wrong_values(lambda value: value is None or is_integer(value) and value == 0):
            self.check_error(NoPlace, {"place": value}, Control, PATH, machine, stand, None, value)

    def test_acts(self):
        machine = Machine(2, 2)
        control = Control(PATH, machine, Stand(machine))
        for work in (control.step, control.leap):
            for value in wrong_values(lambda value: is_integer(value) and value == 1):
                self.check_error(NoPlace, {"place": value}, work, value)
        strange = [Standing(), FIRST.with_word("pace", None), FIRST.with_word("zero", 2)]
        for value in wrong_values(lambda value: value is None or isinstance(value, Standing) and value == FIRST) + strange:
            self.check_error(BadWords, {"part": "words"}, control.break_off, value, q=9, x="x")
        self.check_error(NoAxis, {"axis": "w"}, control.break_off, None, y="y", w=1, q=1)
        self.check_error(NoAxis, {"axis": "q"}, control.break_off, None, q=1, w=1)
        for value in wrong_values(is_integer):
            self.check_error(BadStand, {"part": "x"}, control.break_off, None, y="y", x=value)
            self.check_error(BadStand, {"part": "y"}, control.break_off, FIRST, y=value, x=1)
        self.check_error(Nothing, {}, control.undo)
        control.break_off()
        for value in wrong_values(lambda value: isinstance(value, Preamble)):
            self.check_error(BadPreamble, {"at": 0}, control.take_up, value, 99)
        for text, at in (("rapid home w", 0), ("- ; rapid home x ; zero 2 ; home w", 2)):
            self.check_error(BadPreamble, {"at": at}, control.take_up, Preamble.read(text), 99)
            self.check_error(BadPreamble, {"at": at}, control.take_up, Preamble.read(text), 0)
        for value in wrong_values(lambda value: value is None or is_integer(value) and value in (0, 1)):
            self.check_error(BadTarget, {"part": "many"}, control.take_up, Preamble(Block()), value)
        self.assertEqual((True, Tape()), (control.is_broken, control.tape))


if __name__ == "__main__":
    unittest.main()
