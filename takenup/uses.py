"""Which words are used, and which plain words are wanted, from a place on."""

from takenup.blocks import Block
from takenup.errors import BadWords
from takenup.graph import WordGraph
from takenup.items import blocks_in
from takenup.machines import Machine
from takenup.needs import need_place, need_program
from takenup.standing import CHOSEN, Standing, values_of
from takenup.word_rows import said_by


def uses(program, place):
    """The names of the words that are used at a place."""
    need_program(program)
    need_place(program, place)
    return tuple([name for name in Standing.NAMES if used_places(program, name)[place]])


def used_places(program, name):
    """For each place whether a word is used there."""
    held = [first_done(step, name) for step in program.steps]
    used = [done == "read" for done in held] + [False]
    queue = [place for place in range(program.end) if used[place]]
    while len(queue) > 0:
        reached = queue.pop()
        for place in range(program.end):
            if not used[place] and held[place] == "nothing" and reached in program.after(place):
                used[place] = True
                queue.append(place)
    return used


def first_done(step, name):
    """What the blocks of a step do first with a word: read or say it, or nothing."""
    for block in blocks_in([step]):
        if name in block.words.said:
            return "said"
        if is_read(block, name):
            return "read"
    return "nothing"


def is_read(block, name):
    """Whether a block reads a word when its own words hold."""
    deed = block.deed
    if deed is None:
        return False
    if name == "unit":
        return deed.KIND in ("move", "here", "lay") and any([number != 0 for _, number in deed])
    if name == "reading":
        return deed.KIND == "move"
    if name == "zero":
        return deed.KIND in ("move", "here", "lay")
    return block.is_marking


def wanted(program, place, name):
    """For each value with which a plain word is wanted at a place: the value, the first run and the first run on."""
    need_program(program)
    need_place(program, place)
    if not isinstance(name, str) or name not in Standing.PLAIN_NAMES:
        raise BadWords("name")
    showing = {way: first_showing(program, place, way, name) for way in CHOSEN["way"]}
    graph = graph_of(program, name)
    found = {}
    for at, (reached, (way, value)) in enumerate(graph.points):
        if reached == place and showing[way] is not None and value not in found:
            found[value] = (value, graph.run_to(at), showing[way])
    return tuple([found[value] for value in values_of(name, Machine()) if value in found])


def graph_of(program, name):
    """What comes about of the way and of one more plain word."""
    names = ("way", name)
    at = Standing.NAMES.index(name)
    way = Standing.NAMES.index("way")
    said = [said_by(step) for step in program.steps]
    graph = WordGraph(program, [(row[way], row[at]) for row in said])
    first = Standing.first()
    for start in program.starts:
        graph.enter(start, tuple([first[told] for told in names]))
    graph.explore()
    return graph


def first_showing(program, place, way, name):
    """The first run on from a place whose last step but one is the first with a mark that shows a plain word.

    Up to this mark no block has said the word. The way is the one that holds at the place. None if there is none.
    """
    ahead = {(place, way): None}
    queue = [(place, way)]
    done = 0
    while done < len(queue):
        at, held = queue[done]
        seen, behind = first_seen(program[at], held, name) if at < program.end else ("said", held)
        if seen == "shown":
            return way_to(ahead, queue[done]) + program.after(at)[:1]
        if seen == "nothing":
            fresh = [(after, behind) for after in program.after(at) if (after, behind) not in ahead]
            for key in fresh:
                ahead[key] = queue[done]
            queue.extend(fresh)
        done += 1
    return None


def way_to(ahead, key):
    """The tuple of the places along which a key was reached."""
    places = []
    while key is not None:
        places.append(key[0])
        key = ahead[key]
    return tuple(places[::-1])


def first_seen(step, way, name):
    """Whether a plain word is said first or shown first by a step, or nothing of it; and the way behind the step.

    What two turns do not do, no later turn does.
    """
    if isinstance(step, Block):
        return first_seen_of_block(step, way, name)
    for _ in range(min(int(step.count), 2)):
        for item in step.members:
            seen, way = first_seen(item, way, name)
            if seen != "nothing":
                return seen, way
    return "nothing", way


def first_seen_of_block(block, way, name):
    """Likewise for a block."""
    if name in block.words.said:
        return "said", way
    if block.words.way is not None:
        way = block.words.way
    if block.is_marking and (name == "way" or way == "cut"):
        return "shown", way
    return "nothing", way
