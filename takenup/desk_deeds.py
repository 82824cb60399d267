"""What a desk does for each deed line, and what it has."""

from takenup.blocks import Numbered
from takenup.controls import Control
from takenup.machines import Machine
from takenup.needs import need_fit

DONE = "ok"


class Bench:
    """What a desk has: a machine, a program, a control, each None if there is none, and the deed lines so far."""

    def __init__(self, machine, plan, control, deeds):
        self.machine = machine
        self.plan = plan
        self.control = control
        self.deeds = deeds

    def copied(self):
        """A bench that goes on by itself."""
        control = None if self.control is None else self.control.twin()
        return Bench(self.machine, self.plan, control, list(self.deeds))


def do_machine(bench, things):
    """A new machine; program and control are given up."""
    bench.machine = Machine(*things)
    bench.plan = None
    bench.control = None
    return DONE


def do_program(bench, things):
    """A new program; the control is given up."""
    program = things[0]
    need_fit(program.blocks, bench.machine)
    bench.plan = program
    bench.control = None
    return DONE


def do_begin(bench, things):
    """A new control."""
    bench.control = Control(bench.plan, bench.machine, *things)
    return DONE


def do_step(bench, things):
    """A step; tells its marks."""
    return " / ".join([str(mark) for mark in bench.control.step(things[0])]) or "-"


def do_leap(bench, things):
    """A leap."""
    bench.control.leap(things[0])
    return DONE


def do_break(bench, things):
    """A break, with the words of a block and the numbers of its move."""
    block = things[0]
    words = block.words if len(block.words) > 0 else None
    positions = dict(block.deed.pairs) if isinstance(block.deed, Numbered) else {}
    bench.control.break_off(words, **positions)
    return DONE


def do_take(bench, things):
    """A whole preamble."""
    bench.control.take_up(things[0])
    return DONE


def do_part(bench, things):
    """Some blocks of a preamble."""
    many, preamble = things
    bench.control.take_up(preamble, many)
    return DONE


def do_resume(bench, things):
    """A preamble with the fewest entries; tells it."""
    return str(bench.control.resume())


def do_over(bench, things):
    """Another program."""
    bench.control.go_over(things[0])
    return follow_control(bench)


def do_undo(bench, things):
    """Takes back the latest act."""
    bench.control.undo()
    return follow_control(bench)


def do_again(bench, things):
    """Does once more what was taken back last."""
    bench.control.again()
    return follow_control(bench)


def follow_control(bench):
    """The desk's program is the control's."""
    bench.plan = bench.control.program
    return DONE


DEED_ANSWERS = {
    "machine": do_machine,
    "program": do_program,
    "begin": do_begin,
    "step": do_step,
    "leap": do_leap,
    "break": do_break,
    "take": do_take,
    "part": do_part,
    "resume": do_resume,
    "over": do_over,
    "undo": do_undo,
    "again": do_again,
}
