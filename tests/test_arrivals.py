import unittest

from kinds import Checks, is_integer, random_programs, wrong_values
from takenup.arrivals import arrivals, nodes, plain_arrivals, plain_nodes
from takenup.blocks import Block
from takenup.errors import BadProgram, NoPlace, TooMany
from takenup.items import Round, Skip
from takenup.programs import Program
from takenup.standing import Standing
from takenup.stepping import run_words
from ways import Walk

PATH = Program.read("x 0 ; on ; round ( cut x 4 ; here x 0 ) ; far pace 7")


class ArrivalsTest(Checks, unittest.TestCase):
    def check_by_all_runs(self, program, told, words_of, most):
        """The runs that first bring words are those that the walk finds, as far as it goes."""
        runs = Walk(program).runs(most, None, 4000)
        if runs is None:
            return 0
        first = [{} for _ in range(program.end + 1)]
        for run in runs:
            words = words_of(run_words(program, run))
            first[run[-1]].setdefault(str(words), (words, run))
        for place in range(program.end + 1):
            pairs = told(program, place)
            self.assertIs(tuple, type(pairs))
            short = [pair for pair in pairs if len(pair[1]) <= most + 1]
            self.assertEqual(list(first[place].values()), short)
            self.assertEqual(list(pairs[:len(short)]), short)
            for words, run in pairs:
                self.assertEqual(words, words_of(run_words(program, run)))
                self.assertTrue(run[-1] == place and isinstance(run, tuple))
            self.assertEqual(sorted(pairs, key=lambda pair: (len(pair[1]), pair[1])), list(pairs))
            self.assertEqual(len(pairs), len({str(words) for words, _ in pairs}))
        return 1

    def test_by_all_runs_of_few_steps(self):
        done = 0
        for program in [PATH] + random_programs(111, 120, depth=4, zeros=3):
            done += self.check_by_all_runs(program, arrivals, lambda words: words.node_words, 5)
            done += self.check_by_all_runs(program, plain_arrivals, lambda words: words.plain_words, 5)
        self.assertGreater(done, 150)

    def test_by_hand(self):
        told = [(str(words), run) for words, run in arrivals(PATH, 2)]
        self.assertEqual([("on fine zero 0 rapid", (0, 1, 2)), ("on fine zero 0 cut", (0, 1, 2, 3, 2))], told)
        told = [(str(words), run) for words, run in plain_arrivals(PATH, 5)]
        self.assertEqual([("cut tool 0 pace 7 still", (0, 1, 2, 3, 4, 5))], told)
        self.assertEqual(((Standing.first().node_words, (0,)),), arrivals(PATH, 0))

    def test_words_come_about_together(self):
        program = Program.read("skip ( on coarse ) ; skip ( tool 1 pace 3 )")
        self.assertEqual({"far fine zero 0 rapid", "on coarse zero 0 rapid"}, {str(one) for one, _ in arrivals(program, 2)})
        self.assertEqual(
            {"rapid tool 0 pace 0 still", "rapid tool 1 pace 3 still"}, {str(one) for one, _ in plain_arrivals(program, 2)}
        )

    def test_nodes_are_all_arrivals(self):
        for program in [PATH] + random_programs(112, 60, depth=4):
            for told, all_told in ((arrivals, nodes), (plain_arrivals, plain_nodes)):
                expected = [
                    (place, words) for place in range(program.end + 1) for words, _ in told(program, place)
                ]
                self.assertEqual(expected, list(all_told(program)))

    def test_two_thousand_plain_pairs(self):
        exact = self.program_with_plain_pairs(2000)
        self.assertEqual(2000, len(list(plain_nodes(exact))))
        self.assertEqual(100, len(plain_arrivals(exact, 0)))
        more = self.program_with_plain_pairs(2001)
        many = {"what": "nodes", "most": 2000}
        self.check_error(TooMany, many, plain_arrivals, more, 0)
        self.check_error(TooMany, many, plain_arrivals, more, more.end)
        self.check_error(TooMany, many, plain_nodes, more)
        self.assertEqual(1, len(arrivals(more, more.end)))

    def program_with_plain_pairs(self, many):
        """A program in which 2000 or more pairs of a place and plain words come about: 100 at each of 20 places."""
        skips = [Skip(Block(Standing(pace=at))) for at in range(1, 10)] + [Skip(Block(Standing(tool=at))) for at in range(1, 10)]
        return Program(*[Block() for _ in range(many - 2000)], Round(*skips), Block())

    def test_wrong_arguments(self):
        for work in (arrivals, plain_arrivals):
            for value in wrong_values(lambda value: isinstance(value, Program)):
                self.check_error(BadProgram, {"part": "program"}, work, value, 99)
            for value in wrong_values(lambda value: is_integer(value) and 0 <= value <= PATH.end):
                self.check_error(NoPlace, {"place": value}, work, PATH, value)
        for work in (nodes, plain_nodes):
            for value in wrong_values(lambda value: isinstance(value, Program)):
                self.check_error(BadProgram, {"part": "program"}, work, value)


if __name__ == "__main__":
    unittest.main()
