"""The conditions of looks, said once more and plainly, by what the package tells of single steps; and bent values."""

from takenup.arrivals import nodes
from takenup.pairs import wants
from takenup.places import is_ring, is_run
from takenup.standing import Standing
from takenup.stepping import run_shift, run_words, step_shift, words_behind
from takenup.tables import edges


class No(Exception):
    """A condition does not hold."""


def need(condition):
    if not condition:
        raise No()


def holds(work, *args):
    """Whether a restated condition holds; what is not in its form fails in any way."""
    try:
        work(*args)
    except (No, ValueError, TypeError, KeyError, IndexError, AttributeError):
        return False
    return True


def need_integer(value, low=None, high=None):
    need(type(value) is int and (low is None or low <= value <= high))


def read_node(program, machine, place, text, names=Standing.NODE_NAMES):
    """The words of a node that is told by a place and a text."""
    need_integer(place, 0, program.end)
    words = Standing.read(text)
    need(words.said == names and words.fits(machine))
    return words


def behind(words, step, names=Standing.NODE_NAMES):
    """The words with these names behind a step."""
    told = words_behind(words, step)
    return Standing(**{name: told[name] for name in names if told[name] is not None})


def table_holds(program, machine, rows):
    need(type(rows) is tuple)
    told = {}
    for place, text, axis, ties in rows:
        read_node(program, machine, place, text)
        need(type(axis) is str and axis in machine.axes and (place, text, axis) not in told)
        need(type(ties) is tuple)
        told[place, text, axis] = tied = {}
        firsts = []
        for at, tie in enumerate(ties):
            need(type(tie) is tuple and len(tie) > 0 and tie[0][1] == 0)
            names = [machine.registers.index(name) for name, _ in tie]
            need(names == sorted(set(names)))
            firsts.append(names[0])
            for name, number in tie:
                need_integer(number)
                need(name not in tied)
                tied[name] = (at, number)
        need(firsts == sorted(firsts) and set(tied) == set(machine.registers))
    found = {(place, text) for place, text, _ in told}
    first = str(Standing.first().node_words)
    for place, text in found:
        for axis in machine.axes:
            need((place, text, axis) in told)
    for start in program.starts:
        for axis in machine.axes:
            need(len(machine.registers) == len({at for at, _ in told[start, first, axis].values()}))
    for place, text in found:
        if place == program.end:
            continue
        words, step = Standing.read(text), program[place]
        for after in program.after(place):
            for axis in machine.axes:
                tied, ahead = told[after, str(behind(words, step)), axis], told[place, text, axis]
                shift = step_shift(machine, words, step, axis)
                for one in tied:
                    for other in tied:
                        if tied[one][0] == tied[other][0]:
                            source, other_source, more = shift.pulled(one, other)
                            need(ahead[source][0] == ahead[other_source][0])
                            more += ahead[source][1] - ahead[other_source][1]
                            need(tied[one][1] - tied[other][1] == more)


def difference_on(program, machine, run, axis, one, other):
    """The difference of two registers on a run, None if they have unlike sources."""
    shift = run_shift(program, machine, run, axis)
    return shift[one].apart(shift[other])


def heights_hold(program, machine, place, axis, one, other, words, value):
    """The conditions of a Most, a Rising or a Free."""
    counted = [held for at, held in nodes(program) if at == place and words in (None, held)]
    if value.word == "most":
        need_integer(value.number)
        need(is_run(program, value.run) and value.run[-1] == place)
        need(run_words(program, value.run).node_words in counted)
        need(difference_on(program, machine, value.run, axis, one, other) == value.number)
        heights_of_rows_hold(program, machine, place, axis, one, other, counted, value)
    elif value.word == "rising":
        rising_holds(program, machine, place, axis, one, other, counted, value)
    else:
        need(value.word == "free" and is_run(program, value.run) and value.run[-1] == place)
        need(run_words(program, value.run).node_words in counted)
        need(difference_on(program, machine, value.run, axis, one, other) is None)


def heights_of_rows_hold(program, machine, place, axis, one, other, counted, value):
    known = {(at, str(held)) for at, held in nodes(program)}
    need(type(value.rows) is tuple)
    heights = {}
    for at, text, name, other_name, height in value.rows:
        need_integer(at)
        need_integer(height)
        need((at, text) in known and name != other_name and (at, text, name, other_name) not in heights)
        need(machine.registers.index(name) >= 0 and machine.registers.index(other_name) >= 0)
        need(not (at in program.starts and text == str(Standing.first().node_words)))
        heights[at, text, name, other_name] = height
    for at, held, after, behind_words in list(edges(program)):
        shift = step_shift(machine, held, program[at], axis)
        for (reached, text, name, other_name), height in heights.items():
            if (reached, text) == (after, str(behind_words)):
                source, other_source, more = shift.pulled(name, other_name)
                if source != other_source:
                    more += heights[at, str(held), source, other_source]
                need(more <= height)
    if one != other:
        for held in counted:
            need(heights[place, str(held), one, other] <= value.number)


def rising_holds(program, machine, place, axis, one, other, counted, value):
    need(is_run(program, value.run) and is_ring(program, value.ring) and value.run[-1] == value.ring[0])
    need(is_run(program, value.on, value.ring[0]) and value.on[-1] == place)
    begun = run_words(program, value.run)
    need(run_words(program, value.ring, begun).node_words == begun.node_words)
    need(run_words(program, value.on, begun).node_words in counted)
    source, other_source, _ = run_shift(program, machine, value.on, axis, begun).pulled(one, other)
    need(source != other_source)
    again, other_again, more = run_shift(program, machine, value.ring, axis, begun).pulled(source, other_source)
    need((again, other_again) == (source, other_source) and more > 0)
    need(difference_on(program, machine, value.run, axis, source, other_source) is not None)


def pairs_hold(program, machine, axis, openings, value, second, differences):
    """The conditions of a PairTable, with a function that tells the differences at nodes."""
    need(type(value.rows) is tuple and value.axis == axis)
    told = {}
    for place, text, other_text, known in value.rows:
        words = read_node(program, machine, place, text)
        other = read_node(program, machine, place, other_text, Standing.NUMBER_NAMES)
        need((place, text, other_text) not in told and type(known) is tuple)
        told[place, text, other_text] = numbers = {}
        for name, other_name, number in known:
            need_integer(number)
            need(machine.registers.index(name) >= 0 and machine.registers.index(other_name) >= 0)
            need((name, other_name) not in numbers)
            numbers[name, other_name] = number
        if place == program.end:
            continue
        for want in wants(machine, axis, words, program[place], other, second[place]):
            need(numbers[want.one, want.other] == want.number)
    for place, words, other, held in openings:
        for (name, other_name), number in told[place, str(words), str(other)].items():
            if other_name == "p":
                need(held is not None)
                need(differences(place, words, axis, name, held.source) - held.number == number)
            else:
                need(differences(place, words, axis, name, other_name) == number)
    for (place, text, other_text), numbers in told.items():
        if place < program.end:
            words, other = Standing.read(text), Standing.read(other_text)
            shift = step_shift(machine, words, program[place], axis)
            other_shift = step_shift(machine, other, second[place], axis)
            texts = (str(behind(words, program[place])), str(behind(other, second[place], Standing.NUMBER_NAMES)))
            for after in program.after(place):
                for (name, other_name), number in told[after, *texts].items():
                    one, another = shift[name], other_shift[other_name]
                    need(numbers[one.source, another.source] == number + another.number - one.number)


def bends(value):
    """Yields values beside a nested tuple: integers greater or less by 1, items left out, doubled or exchanged."""
    if type(value) is int:
        yield value + 1
        yield value - 1
        yield bool(value)
    elif type(value) is tuple:
        for at, item in enumerate(value):
            for bent in bends(item):
                yield value[:at] + (bent,) + value[at + 1:]
            yield value[:at] + value[at + 1:]
            yield value[:at] + (item, item) + value[at + 1:]
            yield value[:at] + (None,) + value[at + 1:]
            if at > 0:
                yield value[:at - 1] + (item, value[at - 1]) + value[at + 1:]
    elif type(value) is str:
        yield value + " "
        yield ""


def unfixed(value):
    """The value with each tuple in it as a list."""
    return [unfixed(item) for item in value] if isinstance(value, tuple) else value
