import random
import unittest

from kinds import Checks, wrong_values
from takenup.errors import NoAxis
from takenup.marks import Mark
from takenup.papers import Paper


def random_mark(chance):
    many = chance.randint(1, 3)
    ends = [chance.randint(-10 ** 60 + 1, 10 ** 60 - 1) for _ in range(many)]
    if chance.random() < 0.4:
        return Mark("rapid", ends)
    begins = [chance.randint(-50, 50) for _ in range(many)]
    return Mark("cut", ends, begins, chance.randrange(10), chance.randrange(100), chance.choice(["still", "turning"]))


class MarksTest(Checks, unittest.TestCase):
    def test_the_paper(self):
        mark = Mark("cut", [5, -7], [0, 0], 1, 20, "turning")
        told = (mark.way, mark.ends, mark.begins, mark.tool, mark.pace, mark.spindle)
        self.assertEqual(("cut", (5, -7), (0, 0), 1, 20, "turning"), told)
        self.assertEqual(("mark", told), (mark.word, mark.parts))
        self.assertEqual(mark, Mark(way="cut", ends=(5, -7), begins=(0, 0), spindle="turning", pace=20, tool=1))
        self.assertEqual(("rapid", (5,), None, None, None, None), Mark("rapid", (5,)).parts)
        self.assertTrue(mark and mark == Paper("mark", *told))
        self.assertFalse(mark == Mark("cut", [5, -7], [0, 0], 1, 20, "still"))
        self.assertFalse(mark == told)

    def test_parts_are_copied(self):
        ends = [1, 2]
        mark = Mark("rapid", ends)
        ends.append(3)
        self.assertEqual((1, 2), mark.ends)

    def test_moved(self):
        mark = Mark("cut", (5, -7), (0, 1), 1, 20, "turning")
        self.assertEqual(Mark("cut", (5, 3), (0, 11), 1, 20, "turning"), mark.moved(y=10))
        self.assertEqual(Mark("rapid", (-1, 2, 10 ** 60)), Mark("rapid", (0, 2, 0)).moved(w=10 ** 60, x=-1))
        self.assertEqual(mark, mark.moved())
        self.assertEqual(Mark("cut", (5, -7), (0, 1), 1, 20, "turning"), mark)
        self.assertIs(Mark, type(mark.moved(x=1)))
        self.check_error(NoAxis, {"axis": "w"}, mark.moved, x=1, w=1, q=1)
        self.check_error(NoAxis, {"axis": "q"}, mark.moved, q=1, w=1)
        self.check_error(NoAxis, {"axis": "y"}, Mark("rapid", (0,)).moved, y=0)
        self.check_error(NoAxis, {"axis": "p"}, mark.moved, p=None)

    def test_texts(self):
        self.assertEqual("rapid 5 -7", str(Mark("rapid", (5, -7))))
        self.assertEqual("cut 0 0 to 5 -7 tool 1 pace 20 turning", str(Mark("cut", (5, -7), (0, 0), 1, 20, "turning")))
        for tool, pace in ((0, 0), (9, 99)):
            self.check_reads(Mark.read, Mark("cut", (1,), (0,), tool, pace, "still"))
        chance = random.Random(91)
        for _ in range(200):
            self.check_reads(Mark.read, random_mark(chance))
        self.check_no_texts(Mark.read)
        for text, word in {
            "rapid": 1, "rapid 1 2 3 4": 4, "rapid x": 1, "rapid 1 ": 2, " rapid 1": 0, "rapid  1": 1, "cut": 1, "cut to": 1,
            "cut 1": 2, "cut 1 2 3 4 to": 4, "cut 1 to": 3, "cut 1 to 2 3": 4, "cut 1 2 to 3 tool": 5, "cut 1 to 2": 4,
            "cut 1 to 2 tool": 5, "cut 1 to 2 tool 10": 5, "cut 1 to 2 tool 1 pace 100": 7, "cut 1 to 2 tool 1 still": 6,
            "cut 1 to 2 tool 1 pace 9": 8, "cut 1 to 2 tool 1 pace 9 on": 8, "cut 1 to 2 tool 1 pace 9 still x": 9,
            "rapid 1 to 2": 2, "rapid 1 tool 1": 2, "rapid -0": 1, "rapid +1": 1, "rapid 1" + "0" * 60: 1, "Cut 1": 0,
            "cut 1 to 2 tool 1 pace 9 still\n": 8, "rapid " + "3" * 5000: 1, "cut 1 to 2 tool -1": 5,
        }.items():
            self.check_text(Mark.read, text, word)

    def test_wrong_texts(self):
        tail = ["tool", "1", "pace", "2", "still"]
        endings = [tail[at:] for at in range(6)] + [["0"] * many + tail for many in range(1, 4)] + [["0"], ["1", *tail[2:]]]
        endings += [["0"] * one + ["to"] + ["0"] * other + tail for one in range(4) for other in range(1, 4)]
        endings += [["cut", "0", "to", "0", *tail]]
        words = ["", "0", "to", "tool", "cut", "still", "10", "100", "x"]
        for text in ("rapid 5 -7", "cut 0 to 5 tool 1 pace 20 turning", "cut 0 0 4 to 5 -7 3 tool 9 pace 99 still"):
            self.check_wrong_texts(Mark.read, text, words, endings)

    def test_methods_stand_in_the_class(self):
        for name in "__init__ __str__ moved read".split():
            self.assertIn(name, vars(Mark))
        self.assertTrue(wrong_values(lambda value: isinstance(value, Mark)))


if __name__ == "__main__":
    unittest.main()
