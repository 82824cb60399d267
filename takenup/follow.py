"""Which steps can be the first ones, follow one another, and be the last ones.

A flow is told by four things: the places of the steps that can be done first, of those that can be done last,
whether no step need be done at all, and the pairs of places of which the second can be done directly behind the
first.
"""

from takenup.blocks import Block
from takenup.items import Round, Skip, Told, steps_in


def row_flow(items, at):
    """The flow of items, one behind the other, the first step of which has the place at."""
    firsts, lasts, pairs = [], [], []
    is_passable = True
    for item in items:
        heads, tails, passes, links = item_flow(item, at)
        pairs = pairs + links + joined(lasts, heads)
        firsts = firsts + heads if is_passable else firsts
        lasts = lasts + tails if passes else tails
        is_passable = is_passable and passes
        at = at + len(steps_in([item]))
    return firsts, lasts, is_passable, pairs


def item_flow(item, at):
    """The flow of an item, the first step of which has the place at."""
    if isinstance(item, (Block, Told)):
        return [at], [at], False, []
    firsts, lasts, is_passable, pairs = row_flow(item.members, at)
    if isinstance(item, Skip):
        return firsts, lasts, True, pairs
    if isinstance(item, Round):
        pairs = pairs + joined(lasts, firsts)
    return firsts, lasts, is_passable, pairs


def joined(lasts, firsts):
    """All pairs of one of the lasts and one of the firsts."""
    return [(one, other) for one in lasts for other in firsts]


def start_places(flow, end):
    """The ascending tuple of the places whose step can be the first one; the end if no step need be done."""
    firsts, _, is_passable, _ = flow
    starts = [place for place in range(end) if place in firsts]
    return (*starts, end) if is_passable else tuple(starts)


def next_places(flow, end):
    """For each place the ascending tuple of its next places."""
    _, lasts, _, pairs = flow
    follows = {pair: True for pair in pairs + joined(lasts, [end])}
    places = range(end + 1)
    return tuple([tuple([other for other in places if (one, other) in follows]) for one in places])
