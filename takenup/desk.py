"""A desk at which a control is led, and all else is asked, line by line."""

from takenup.desk_asks import ASK_ANSWERS
from takenup.desk_deeds import DEED_ANSWERS, Bench
from takenup.desk_lines import read_line
from takenup.errors import BadLine, Nothing, ToolError

WITH_CONTROL = (
    "step", "leap", "break", "take", "part", "resume", "over", "undo", "again", "where", "run", "stand", "tape",
)


class Desk:
    """Has at most one machine, one program and one control, and answers lines."""

    def __init__(self):
        self.machine = None
        self.bench = Bench(None, None, None, [])

    @property
    def program(self):
        """The program, None if there is none."""
        return self.bench.plan

    @property
    def lines(self):
        """All deed lines that were done."""
        return tuple(self.bench.deeds)

    def told(self, *lines):
        """The tuple of the answers to lines."""
        bench = self.bench.copied()
        answers = done_lines(bench, lines)
        self.bench = bench
        self.machine = bench.machine
        return answers

    def __call__(self, line):
        return self.told(line)[0]

    def tried(self, *lines):
        """The tuple of the answers to lines; the desk is as it was before."""
        return done_lines(self.bench.copied(), lines)

    def control_twin(self):
        """A new twin of the control, None without one."""
        return None if self.bench.control is None else self.bench.control.twin()

    def __eq__(self, other):
        if not isinstance(other, Desk) or self.machine != other.machine or self.bench.plan != other.bench.plan:
            return False
        return are_same_controls(self.bench.control, other.bench.control)


def are_same_controls(one, other):
    """Whether there is no control on both sides, or there are controls in equal states."""
    if one is None or other is None:
        return one is None and other is None
    if one.program != other.program or one.run != other.run or one.stand != other.stand or one.words != other.words:
        return False
    return one.tape == other.tape


def done_lines(bench, lines):
    """The tuple of the answers to lines, which are all read first and then done with a bench in order."""
    read = [read_line(text, at) for at, text in enumerate(lines)]
    return tuple([done_line(bench, at, text, told) for at, (text, told) in enumerate(zip(lines, read))])


def done_line(bench, at, text, told):
    """The answer to a line that was read, the one with the index at."""
    try:
        answer = answer_to(bench, told)
    except ToolError as why:
        raise BadLine(at, why) from why
    if told.is_deed:
        bench.deeds.append(text)
    return answer


def answer_to(bench, told):
    """The answer to a line that was read."""
    need_things(bench, told.name)
    if told.is_deed:
        answer = DEED_ANSWERS[told.name]
    else:
        answer = ASK_ANSWERS[told.name]
    return answer(bench, told.things)


def need_things(bench, name):
    """Refuses a line that needs what is not there."""
    if name != "machine" and bench.machine is None:
        raise Nothing()
    if name not in ("machine", "program") and bench.plan is None:
        raise Nothing()
    if name in WITH_CONTROL and bench.control is None:
        raise Nothing()
