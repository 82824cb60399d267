import random
import unittest

from kinds import Checks, any_values, is_integer, wrong_values
from takenup.errors import BadPaper
from takenup.marks import Mark
from takenup.papers import Denial, Paper, fixed
from takenup.tapes import Row, Tape

CUT = Mark("cut", (1, 2), (0, 0), 3, 40, "still")
RAPID = Mark("rapid", (5, 6))
ROWS = (Row(0, (RAPID,), ((1, 2),)), Row(3, None, ((3, 4),)), Row(0, (), ((5, 6),)), Row(2, (CUT, RAPID, CUT), ((7, 8),)))


def random_row(chance):
    marks = [None, (), (RAPID,), (CUT,), (CUT, RAPID)]
    return Row(chance.randint(0, 3), chance.choice(marks), ((chance.randint(0, 1),),))


def is_right(row):
    return (
        type(row) is Row and type(row.place) is int and row.place >= 0 and type(row.zeros) is tuple
        and all(type(one) is tuple and all(type(number) is int for number in one) for one in row.zeros)
        and (row.marks is None or type(row.marks) is tuple and all(type(mark) is Mark for mark in row.marks))
    )


class TapesTest(Checks, unittest.TestCase):
    def test_rows(self):
        row = Row(zeros=[[1]], marks=[CUT], place=2)
        self.assertEqual((2, (CUT,), ((1,),)), (row.place, row.marks, row.zeros))
        self.assertTrue(row == Paper("row", 2, (CUT,), ((1,),)) and bool(row) and not isinstance(row, Denial))
        for value in any_values():
            for parts in ((value, None, ()), (0, value, ()), (0, None, value)):
                paper = Row(*parts)
                self.assertEqual(fixed(parts), paper.parts)
                self.assertEqual(paper.parts, (paper.place, paper.marks, paper.zeros))

    def test_what_a_tape_is_made_of(self):
        chance = random.Random(701)
        values = any_values()
        few = [0, 3, -1, True, None, (), ((1,), (2, 3)), ((),), (True,), ((None,),), (CUT,), (RAPID, CUT), (CUT, None), [], "x"]
        strange = [Row(*[chance.choice(few) for _ in range(3)]) for _ in range(600)]
        strange += [Row(value, None, ()) for value in values] + [Row(0, value, ()) for value in values]
        strange += [Row(0, None, value) for value in values] + [Row(0, None, (value,)) for value in values]
        strange += [Row(0, None, ((True,),)), Row(True, None, ()), Row(-1, None, ()), Row(0, (Paper("mark", 1),), ()), Row(0, (CUT, 1), ()), Row(0, None, (1,))]
        right = 0
        for value in values + strange:
            right += is_right(value)
            if is_right(value):
                self.assertEqual((value,), Tape(value).rows)
            else:
                self.check_error(BadPaper, {"part": "rows"}, Tape, value)
                self.check_error(BadPaper, {"part": "rows"}, Tape, ROWS[0], value)
        self.assertGreater(right, 20)
        self.check_error(BadPaper, {"part": "rows"}, Tape, list(ROWS))
        self.check_error(BadPaper, {"part": "rows"}, Tape, Paper("row", *ROWS[0].parts))
        self.assertEqual((), Tape().rows)

    def test_paper(self):
        tape = Tape(*ROWS)
        self.assertEqual(ROWS, tape.rows)
        self.assertTrue(tape == Paper("tape", *ROWS) and tape == Tape(*[Row(*row.parts) for row in ROWS]))
        self.assertEqual((ROWS, "tape"), (tape.parts, tape.word))
        self.assertFalse(isinstance(tape, Denial) or tape == ROWS or tape == Tape(*ROWS[:3]) or tape == Paper("row", *ROWS))
        self.assertTrue(tape and bool(Tape()))
        for name in ("__init__", "__len__", "__iter__", "__getitem__", "__contains__", "__add__", "from_last", "parting", "is_beginning_of"):
            self.assertIn(name, vars(Tape))

    def test_items(self):
        tape = Tape(*ROWS)
        self.assertEqual((4, list(ROWS)), (len(tape), list(tape)))
        self.assertEqual(list(ROWS), [tape[at] for at in range(4)])
        for at in (-1, 4, -4, 10 ** 30, -10 ** 30):
            self.check_error(BadPaper, {"part": "row"}, tape.__getitem__, at)
        self.check_error(BadPaper, {"part": "row"}, Tape().__getitem__, 0)

    def test_slices(self):
        tape = Tape(*ROWS)
        bounds = (None, 0, 1, 2, 3, 4, 5, 99)
        for low in bounds:
            for high in bounds:
                self.assertEqual(Tape(*ROWS[low:high]), tape[low:high])
                self.assertIs(Tape, type(tape[low:high]))

    def test_in(self):
        tape = Tape(*ROWS)
        for row in ROWS:
            self.assertTrue(row in tape and Row(*row.parts) in tape and Paper("row", *row.parts) in tape)
        for value in any_values() + [Row(0, (RAPID,), ((1, 3),)), Row(3, (), ((3, 4),))]:
            self.assertNotIn(value, tape)

    def test_plus(self):
        one, other = Tape(*ROWS[:1]), Tape(*ROWS[1:])
        self.assertEqual(Tape(*ROWS), one + other)
        self.assertEqual((Tape(*ROWS), Tape(*ROWS)), (Tape(*ROWS) + Tape(), Tape() + Tape(*ROWS)))
        for value in wrong_values(lambda value: isinstance(value, Tape)) + [Paper("tape", *ROWS)]:
            for work in (one.__add__, one.parting, one.is_beginning_of):
                self.check_error(BadPaper, {"part": "other"}, work, value)

    def test_properties(self):
        tape = Tape(*ROWS)
        self.assertEqual((0, 3, 0, 2), tape.places)
        self.assertEqual((RAPID, CUT, RAPID, CUT), tape.marks)
        self.assertEqual((CUT, CUT), tape.cuts)
        self.assertEqual(((7, 8),), tape.zeros)
        none = Tape()
        self.assertEqual(((), (), (), None), (none.places, none.marks, none.cuts, none.zeros))
        self.assertEqual(((), ((3, 4),)), (tape[1:2].marks, tape[1:2].zeros))

    def test_from_last(self):
        tape = Tape(*ROWS)
        for place, low in ((0, 2), (3, 1), (2, 3), (1, 4), (9, 4), (True, 4), (False, 4)):
            self.assertEqual(Tape(*ROWS[low:]), tape.from_last(place))
        self.assertEqual(Tape(), Tape().from_last(0))

    def test_parting_and_beginning(self):
        chance = random.Random(702)
        found = []
        for _ in range(600):
            one = Tape(*[random_row(chance) for _ in range(chance.randint(0, 4))])
            keep = chance.randint(0, len(one))
            other = one[:keep] + Tape(*[random_row(chance) for _ in range(chance.randint(0, 2))])
            first = [at for at, (mine, its) in enumerate(zip(one, other)) if not mine == its]
            self.assertEqual(first[0] if first else None, one.parting(other))
            self.assertEqual(one.parting(other), other.parting(one))
            is_beginning = len(one) <= len(other) and list(one) == list(other)[:len(one)]
            self.assertIs(is_beginning, one.is_beginning_of(other))
            found.append((bool(first), is_beginning))
        self.assertEqual({(True, False), (False, True), (False, False)}, set(found))
        self.assertTrue(Tape().is_beginning_of(Tape(*ROWS)) and is_integer(0))
        self.assertFalse(Tape(*ROWS).is_beginning_of(Tape()))

    def test_never_changes(self):
        marks, zeros = [CUT], [[1, 2]]
        row = Row(0, marks, zeros)
        marks.append(RAPID)
        zeros[0].append(3)
        self.assertEqual(((CUT,), ((1, 2),)), (row.marks, row.zeros))
        self.assertEqual(((CUT,), ((1, 2),)), (Tape(row).marks, Tape(row).zeros))


if __name__ == "__main__":
    unittest.main()
