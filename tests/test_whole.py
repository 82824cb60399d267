"""What the document promises over the whole program."""

import doctest
import importlib
import inspect
import random
import unittest
from pathlib import Path

from kinds import Checks, any_values, is_integer, random_programs, wrong_values
from takenup.errors import BadMachine, BadProgram, NoPlace, TooMany, ToolError
from takenup.machines import Machine
from takenup.programs import Program
from takenup.sums import Sum
from takenup.standing import Standing
from takenup.targets import Target
from takenup.texts import is_told, text_of

INTERFACE = {
    "errors": "ToolError BadMachine BadWords BadBlock BadProgram BadSum BadMap BadStand BadTarget BadPaper BadControl Missing NoAxis NoRegister NoPlace NoNode BadRun"
              " BadPreamble Stopped Running Nothing TooMany BadText BadLine",
    "papers": "fixed Paper Denial", "machines": "Machine", "standing": "Standing values_of",
    "blocks": "Deed Numbered Named Marking Storing Move Here Lay Home Touch Block", "items": "Group Counted Skip Round Told", "programs": "Program",
    "places": "is_run need_run is_ring runs_of least_run passes", "changed": "mirrored exchanged rezeroed", "sums": "Sum", "maps": "Shift",
    "stepping": "words_behind turns block_shift turn_shift told_shift step_shift run_shift run_words mark_sums", "powers": "Rounds rounds pair_rounds", "stands": "Stand",
    "marks": "Mark", "runs": "Played play steps_of far", "arrivals": "arrivals plain_arrivals nodes plain_nodes", "tables": "edges differences Table", "unlike": "unlike Unlike",
    "look_tables": "shows_table shows_unlike", "heights": "greatest least between Most Rising Free", "look_heights": "shows_greatest",
    "pairs": "Want Parting wants asked PairTable pair_table PlainTable plain_table", "alike": "Alike Unalike alike alike_at",
    "look_alike": "shows_pairs shows_plains shows_parting shows_alike shows_unalike", "idle": "without is_idle idle_words idle_deeds lean", "uses": "uses wanted",
    "targets": "Target", "serving": "serves Served Unserved options", "takeups": "Choice choices take_up TakenUp RefusedWord Refused RefusedRow takeable",
    "look_takeups": "shows_served shows_unserved shows_refused shows_taken", "preambles": "Preamble", "making": "by_units Making begun is_made plain_entries next_makings",
    "least": "Made fewest Least least_preamble", "look_making": "shows_made shows_least", "cuts": "cuts_of run_cuts most_cuts Cuts Endless",
    "back": "since_last Since way_back Back NoWay ways_back last_back", "look_back": "shows_cuts shows_since shows_back shows_no_way", "tapes": "Row Tape", "controls": "Control",
    "trials": "Trial tried both", "texts": "text_of is_told page_of", "reader": "read_value read_lines", "desk_lines": "read_line Line", "desk": "Desk",
}
ATTRIBUTES = {
    "tapes.Tape": "rows places marks cuts zeros", "controls.Control": "program machine place run stand is_broken tape words", "desk_lines.Line": "name things is_deed DEEDS ASKS",
    "desk.Desk": "machine program lines", "preambles.Preamble": "blocks entries",
}
WITH_MACHINE = (
    "stepping.run_shift stepping.mark_sums runs.play runs.steps_of runs.far tables.differences unlike.unlike look_tables.shows_table look_tables.shows_unlike heights.greatest"
    " heights.least heights.between look_heights.shows_greatest pairs.asked pairs.pair_table alike.alike alike.alike_at look_alike.shows_pairs look_alike.shows_parting"
    " look_alike.shows_alike look_alike.shows_unalike idle.is_idle idle.idle_words idle.idle_deeds idle.lean serving.serves serving.options takeups.choices takeups.take_up"
    " takeups.takeable look_takeups.shows_served look_takeups.shows_unserved look_takeups.shows_refused look_takeups.shows_taken least.least_preamble look_making.shows_least"
    " back.since_last back.way_back back.ways_back back.last_back look_back.shows_since look_back.shows_back look_back.shows_no_way controls.Control"
).split()
ALONE = (
    "places.is_run places.need_run places.is_ring places.runs_of places.least_run places.passes stepping.run_words arrivals.arrivals arrivals.plain_arrivals arrivals.nodes"
    " arrivals.plain_nodes tables.edges pairs.plain_table look_alike.shows_plains idle.without uses.uses uses.wanted cuts.run_cuts cuts.most_cuts look_back.shows_cuts"
).split()
PLACE_NEXT = (
    "unlike.unlike look_tables.shows_unlike heights.greatest heights.least heights.between look_heights.shows_greatest serving.serves serving.options takeups.choices takeups.take_up"
    " look_takeups.shows_served look_takeups.shows_unserved look_takeups.shows_refused look_takeups.shows_taken least.least_preamble look_making.shows_least back.way_back"
    " back.ways_back back.last_back look_back.shows_back look_back.shows_no_way places.least_run places.passes arrivals.arrivals arrivals.plain_arrivals uses.uses uses.wanted"
    " cuts.most_cuts look_back.shows_cuts"
).split()
PATH = Program.read("x 0 ; on ; round ( x 4 ; here x 0 ) ; far x 0")


def found(path):
    module, name = path.split(".")
    return getattr(importlib.import_module("takenup." + module), name)


def many_arguments(work):
    """How many arguments a function can be passed by position."""
    return len([one for one in inspect.signature(work).parameters.values() if one.kind == one.POSITIONAL_OR_KEYWORD])


class WholeTest(Checks, unittest.TestCase):
    def test_interface(self):
        for module, names in INTERFACE.items():
            for name in names.split():
                self.assertEqual("takenup." + module, found(f"{module}.{name}").__module__, name)
        for path, names in ATTRIBUTES.items():
            kind = found(path)
            example = {
                "Tape": lambda: kind(), "Control": lambda: next(value for value in any_values() if type(value) is kind), "Line": lambda: kind("step", 1), "Desk": lambda: kind(),
                "Preamble": lambda: kind(),
            }[kind.__name__]()
            for name in names.split():
                self.assertTrue(hasattr(example, name), (path, name))

    def test_no_error_is_below_another_one(self):
        for name in INTERFACE["errors"].split()[1:]:
            kind = found("errors." + name)
            base = "Missing" if name in ("NoAxis", "NoRegister", "NoPlace", "NoNode") else "ToolError"
            self.assertEqual([base], [one.__name__ for one in kind.__bases__])
        self.assertEqual((ValueError,), ToolError.__bases__)

    def test_programs_and_machines_come_first(self):
        """Ahead of all other errors, whatever else is wrong."""
        misfits = [Program.read("y 1"), Program.read("told 2 ( x 1 ; zero 2 )"), Program.read("skip ( home w )"), Program.read("x 1 ; round ( zero 3 lay x 1 )")]
        for path in WITH_MACHINE:
            work = found(path)
            rest = [object()] * (many_arguments(work) - 2)
            for value in wrong_values(lambda value: isinstance(value, Program)):
                self.check_error(BadProgram, {"part": "program"}, work, value, object(), *rest)
            for value in wrong_values(lambda value: isinstance(value, Machine)):
                self.check_error(BadMachine, {"part": "machine"}, work, misfits[0], value, *rest)
            for program in misfits:
                self.check_error(BadMachine, {"part": "fit"}, work, program, Machine(1, 2), *rest)

    def test_programs_alone_come_first(self):
        for path in ALONE:
            work = found(path)
            rest = [object()] * (many_arguments(work) - 1)
            for value in wrong_values(lambda value: isinstance(value, Program)):
                self.check_error(BadProgram, {"part": "program"}, work, value, *rest)

    def test_places_come_next(self):
        for path in PLACE_NEXT:
            work = found(path)
            ahead = (PATH, Machine(1, 2)) if path in WITH_MACHINE else (PATH,)
            rest = [object()] * (many_arguments(work) - len(ahead) - 1)
            for value in wrong_values(lambda value: is_integer(value) and 0 <= value <= PATH.end) + [PATH.end + 1, 1.0]:
                self.check_error(NoPlace, {"place": value}, work, *ahead, value, *rest)

    def test_all_functions_are_here(self):
        """Each function of the interface whose first parameter is called program is looked at above."""
        for module, names in INTERFACE.items():
            for name in names.split():
                value = found(f"{module}.{name}")
                if inspect.isfunction(value) and list(inspect.signature(value).parameters)[0] == "program" and module != "changed":
                    self.assertIn(f"{module}.{name}", WITH_MACHINE + ALONE)

    def test_equal_arguments_give_the_same(self):
        machine = Machine(2, 2)
        for program in random_programs(901, 15, depth=3, axes=2):
            again = Program.read(str(program))
            for path in ("takeups.take_up", "least.least_preamble", "back.last_back", "takeups.choices", "back.ways_back", "serving.serves"):
                work = found(path)
                for place in range(program.end + 1):
                    rest = [Target(Standing(way="rapid"), x=Sum("o"))] if path == "serving.serves" else []
                    one, other = [work(each, Machine(2, 2), place, *rest) for each in (program, again)]
                    one, other = [list(told) if inspect.isgenerator(told) else told for told in (one, other)]
                    self.assertEqual(one, other)
                    self.assertEqual(is_told(one), is_told(other))
            self.assertEqual(found("back.since_last")(program, machine, 0), found("back.since_last")(again, machine, 0))

    def test_nothing_that_is_passed_changes(self):
        chance = random.Random(902)
        for program in random_programs(903, 12, depth=3, axes=2):
            machine, text = Machine(2, 2), str(program)
            place, other = chance.randint(0, program.end), chance.randint(0, program.end)
            told = found("takeups.take_up")(program, machine, place)
            before = text_of(told)
            for path in WITH_MACHINE[:-1]:
                work = found(path)
                arguments = {
                    "place": place, "other": other, "second": program, "target": Target(), "value": told, "words": Standing.first(), "run": [program.starts[0]], "axis": "x",
                    "one": "p", "stand": None, "openings": [], "name": None, "held": None,
                }
                names = [name for name in list(inspect.signature(work).parameters)[2:] if name in arguments]
                try:
                    result = work(program, machine, *[arguments[name] for name in names])
                    if inspect.isgenerator(result):
                        list(result)
                except (ToolError, TooMany):
                    pass
                self.assertEqual((text, machine, before), (str(program), Machine(2, 2), text_of(told)))

    def test_readme_examples(self):
        """The examples of README.md, as a reader would type them."""
        readme = Path(__file__).resolve().parent.parent / "README.md"
        text = readme.read_text(encoding="utf-8").replace("```", "")
        test = doctest.DocTestParser().get_doctest(text, {}, "README.md", str(readme), 0)
        told = doctest.DocTestRunner().run(test)
        self.assertEqual(0, told.failed)
        self.assertGreater(told.attempted, 20)


if __name__ == "__main__":
    unittest.main()
