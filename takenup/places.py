"""Runs, runs on and rings of a program, and their order."""

from takenup.checks import is_integer, is_within
from takenup.errors import BadProgram, BadRun, NoPlace
from takenup.needs import is_place, need_place, need_program

MOST_DONE = 1000


def is_run(program, value, begin=None):
    """Whether any value is a run, or a run on from begin."""
    need_program(program)
    need_begin(program, begin)
    return wrong_item(program, value, begin_places(program, begin)) is None


def need_run(program, value, begin=None):
    """The run, or the run on from begin, as a tuple."""
    need_program(program)
    need_begin(program, begin)
    at = wrong_item(program, value, begin_places(program, begin))
    if at is not None:
        raise BadRun(at)
    return tuple(value)


def need_run_on(program, value):
    """The run on from any place, as a tuple."""
    at = wrong_item(program, value, tuple(range(program.end + 1)))
    if at is not None:
        raise BadRun(at)
    return tuple(value)


def is_ring(program, value):
    """Whether any value is a ring."""
    need_program(program)
    if wrong_item(program, value, tuple(range(program.end + 1))) is not None:
        return False
    return len(value) >= 2 and value[0] == value[-1]


def runs_of(program, most, begin=None):
    """Yields all runs in which at most so many steps are done, in their order."""
    need_program(program)
    if not is_within(most, 0, MOST_DONE):
        raise BadProgram("most")
    need_begin(program, begin)
    begins = begin_places(program, begin)
    layers = [tuple(range(program.end + 1))]
    run = first_from(program, (), begins, layers)
    while run is not None:
        yield run
        run = run_behind(program, run, begins, layers)
        if run is None and len(layers) <= most:
            layers.append(layer_ahead(program, layers[-1]))
            run = first_from(program, (), begins, layers)


def least_run(program, place, begin=None):
    """The first run that stands at a place, None if none does."""
    need_program(program)
    need_place(program, place)
    need_begin(program, begin)
    return first_run_to(program, place, begin_places(program, begin), None)


def passes(program, place, other):
    """Whether each run that stands at place has been at other."""
    need_program(program)
    need_place(program, place)
    need_place(program, other)
    return place != other and first_run_to(program, place, program.starts, other) is None


def need_other_place(program, place, other):
    """Refuses any value that is no place of the program, and the place itself."""
    if not is_place(program, other) or other == place:
        raise NoPlace(other)


def last_visit(run, other):
    """The greatest index ahead of the last one at which a run is at any value as a place, None if it has not been."""
    visits = [at for at, place in enumerate(run[:-1]) if is_integer(other) and place == other]
    return visits[-1] if len(visits) > 0 else None


def need_begin(program, begin):
    """Refuses what is neither None nor a place of the program."""
    if begin is not None:
        need_place(program, begin)


def begin_places(program, begin):
    """The places at which runs can begin; with begin it alone."""
    return program.starts if begin is None else (begin,)


def wrong_item(program, value, begins):
    """The index of the first item that cannot stand in a run that begins at one of begins, None if there is none."""
    if not isinstance(value, (list, tuple)) or len(value) == 0:
        return 0
    can_stand = begins
    for at, place in enumerate(value):
        if not is_place(program, place) or place not in can_stand:
            return at
        can_stand = program.after(place)
    return None


def layer_ahead(program, layer):
    """The places that lead on to one of a layer."""
    return tuple([at for at in range(program.end) if any([after in layer for after in program.after(at)])])


def first_from(program, beginning, can_stand, layers):
    """The first run with this beginning, as many places as layers, and one of can_stand next; None without any.

    Each layer tells the places that can stand so many places ahead of the last one.
    """
    run = [*beginning]
    for left in range(len(layers) - len(run) - 1, -1, -1):
        fit = [place for place in can_stand if place in layers[left]]
        if len(fit) == 0:
            return None
        run.append(fit[0])
        can_stand = program.after(fit[0])
    return tuple(run)


def run_behind(program, run, begins, layers):
    """The run next in order of those of the same length, None behind the last one."""
    for left, layer in enumerate(layers):
        at = len(run) - 1 - left
        can_stand = begins if at == 0 else program.after(run[at - 1])
        greater = [place for place in can_stand if place > run[at] and place in layer]
        if len(greater) > 0:
            return first_from(program, run[:at], greater, layers)
    return None


def first_run_to(program, place, begins, barred):
    """The first run from one of these places that stands at a place and is not at the barred one, None without any."""
    steps = steps_to(program, place, barred)
    ahead = [at for at in begins if at in steps]
    if len(ahead) == 0:
        return None
    run = [nearest(ahead, steps)]
    while run[-1] != place:
        run.append(nearest([at for at in program.after(run[-1]) if at in steps], steps))
    return tuple(run)


def steps_to(program, place, barred):
    """For each place from which some run on leads to place, not by the barred one: the fewest steps of one."""
    steps = {place: 0}
    layer = [place]
    while len(layer) > 0:
        ahead = [at for at in layer_ahead(program, layer) if at not in steps and at != barred]
        for at in ahead:
            steps[at] = steps[layer[0]] + 1
        layer = ahead
    return steps


def nearest(places, steps):
    """The first one of the places with the fewest steps."""
    fewest = min([int(steps[at]) for at in places])
    return [at for at in places if steps[at] == fewest][0]
