"""What a desk answers to each ask."""

from takenup.alike import alike
from takenup.arrivals import arrivals
from takenup.back import Back, way_back
from takenup.cuts import Cuts, most_cuts
from takenup.heights import Most, greatest, least
from takenup.idle import lean
from takenup.least import Least, least_preamble
from takenup.look_takeups import shows_refused, shows_taken
from takenup.serving import serves
from takenup.tables import differences
from takenup.takeups import RefusedWord, TakenUp, take_up, takeable
from takenup.texts import text_of
from takenup.uses import uses


def tell_where(bench, things):
    """The control's place and its words."""
    control = bench.control
    return f"{control.place} broken" if control.is_broken else f"{control.place} {control.words}"


def tell_run(bench, things):
    """The control's run."""
    return row_of(bench.control.run)


def tell_stand(bench, things):
    """The control's stand."""
    return str(bench.control.stand)


def tell_tape(bench, things):
    """The rows of the control's tape."""
    return " ; ".join([tape_row_text(row) for row in bench.control.tape]) or "-"


def tell_after(bench, things):
    """The next places of a place."""
    return row_of(bench.plan.after(things[0]))


def tell_nodes(bench, things):
    """The node words that come about at a place."""
    return " / ".join([str(words) for words, _ in arrivals(bench.plan, things[0])])


def tell_difference(bench, things):
    """The difference of two registers at a node."""
    place, axis, one, other, words = things
    table = differences(bench.plan, bench.machine)
    number = table(place, words, axis, one, other)
    return "unlike" if number is None else str(number)


def tell_tied(bench, things):
    """The ties of an axis at a node."""
    place, axis, words = things
    table = differences(bench.plan, bench.machine)
    return text_of(table.tied(place, words, axis))


def tell_greatest(bench, things):
    """The greatest difference of two registers."""
    told = greatest(bench.plan, bench.machine, *things)
    return str(told.number) if isinstance(told, Most) else told.word


def tell_least(bench, things):
    """The least difference of two registers."""
    told = least(bench.plan, bench.machine, *things)
    return str(-told.number) if isinstance(told, Most) else told.word


def tell_uses(bench, things):
    """The names of the words that are used at a place."""
    return row_of(uses(bench.plan, things[0]))


def tell_serves(bench, things):
    """Whether a target serves a place."""
    place, target = things
    return yes_or_no(serves(bench.plan, bench.machine, place, target))


def tell_target(bench, things):
    """The least target of a place."""
    told = take_up(bench.plan, bench.machine, things[0])
    if isinstance(told, TakenUp):
        return str(told.target)
    return f"refused {told.name}" if isinstance(told, RefusedWord) else "refused"


def tell_preamble(bench, things):
    """A preamble for a place with the fewest entries."""
    told = least_preamble(bench.plan, bench.machine, things[0])
    return str(told.preamble) if isinstance(told, Least) else "refused"


def tell_places(bench, things):
    """The places that can be taken up."""
    places = list(takeable(bench.plan, bench.machine))
    return row_of(places)


def tell_paper(bench, things):
    """The paper on taking up at a place."""
    return text_of(take_up(bench.plan, bench.machine, things[0]))


def tell_shown(bench, things):
    """Whether a value shows whether a place can be taken up."""
    place, value = things
    is_shown = shows_taken(bench.plan, bench.machine, place, value)
    return yes_or_no(is_shown or shows_refused(bench.plan, bench.machine, place, value))


def tell_alike(bench, things):
    """Whether another program is alike."""
    return yes_or_no(alike(bench.plan, bench.machine, things[0]))


def tell_lean(bench, things):
    """The lean program."""
    return str(lean(bench.plan, bench.machine))


def tell_back(bench, things):
    """The least target of a place to which there is a way back, or why there is none."""
    place, other = things
    way = way_back(bench.plan, bench.machine, place, other)
    return str(way.taken.target) if isinstance(way, Back) else way.reason


def tell_cuts(bench, things):
    """The most cuts since the last visit at another place."""
    place, other = things
    told = most_cuts(bench.plan, place, other)
    if told is None:
        return "none"
    return str(told.number) if isinstance(told, Cuts) else told.word


def row_of(values):
    """Places or names with blanks between."""
    return " ".join([str(value) for value in values]) or "-"


def yes_or_no(value):
    """Whether a value is true."""
    return "yes" if value else "no"


def tape_row_text(row):
    """The place of a row of a tape, and its marks."""
    if row.marks is None:
        return f"{row.place} leap"
    return " / ".join([str(row.place), *[str(mark) for mark in row.marks]])


ASK_ANSWERS = {
    "where": tell_where,
    "run": tell_run,
    "stand": tell_stand,
    "tape": tell_tape,
    "after": tell_after,
    "nodes": tell_nodes,
    "difference": tell_difference,
    "tied": tell_tied,
    "greatest": tell_greatest,
    "least": tell_least,
    "uses": tell_uses,
    "serves": tell_serves,
    "target": tell_target,
    "preamble": tell_preamble,
    "places": tell_places,
    "paper": tell_paper,
    "shown": tell_shown,
    "alike": tell_alike,
    "lean": tell_lean,
    "back": tell_back,
    "cuts": tell_cuts,
}
