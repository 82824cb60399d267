"""Looking whether papers show preambles with few entries."""

from takenup.checks import is_integer
from takenup.least import Least, Made
from takenup.look_takeups import shows_served
from takenup.machines import need_machine
from takenup.making import begun, is_made, is_right, next_states, plain_entries, sums_of
from takenup.needs import need_both, need_place
from takenup.preambles import Preamble
from takenup.serving import Served
from takenup.targets import Target, need_fitting_target
from takenup.word_rows import number_row


def shows_made(machine, target, value):
    """Whether any value is a Made of a preamble that makes a target, and shows that no fewer entries do."""
    need_machine(machine)
    need_fitting_target(machine, target)
    if not isinstance(value, Made) or not makes(machine, value.preamble, target):
        return False
    rest = len(value.preamble) - plain_entries(target)
    numbers = told_numbers(machine, target, value.rows)
    if numbers is None:
        return False
    if rest > 0 and numbers.get(state_of(begun(target))) != 0:
        return False
    sums = sums_of(target)
    for state in numbers:
        most = numbers[state] + 1
        if most < rest:
            afters = next_states(machine.zeros, sums, state)
            if not all([after in numbers and numbers[after] <= most for after in afters]):
                return False
    return True


def makes(machine, preamble, target):
    """Whether any value is a preamble that fits a machine and makes a target."""
    if not isinstance(preamble, Preamble) or not preamble.fits(machine):
        return False
    outcome = preamble.outcome(machine)
    return outcome.pairs == target.pairs and target.words.is_part_of(outcome.words)


def told_numbers(machine, target, rows):
    """The numbers of the makings, by their states; None if any value is no tuple of pairs of unmade right ones."""
    if not isinstance(rows, tuple):
        return None
    numbers = {}
    for row in rows:
        if not isinstance(row, tuple) or len(row) != 2:
            return None
        making, number = row
        if not is_right(machine, target, making) or is_made(target, making) or not is_integer(number) or number < 0:
            return None
        state = state_of(making)
        if state in numbers:
            return None
        numbers[state] = number
    return numbers


def state_of(making):
    """The state that a right making tells."""
    return (number_row(making.words), making.grades)


def shows_least(program, machine, place, value):
    """Whether any value is a Least of a preamble that makes the target of a Served that shows that this serves."""
    need_both(program, machine)
    need_place(program, place)
    if not isinstance(value, Least) or not isinstance(value.served, Served):
        return False
    target = value.served.target
    if not isinstance(target, Target) or not makes(machine, value.preamble, target):
        return False
    return shows_served(program, machine, place, value.served)
