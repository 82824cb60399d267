"""A plain way to do blocks, tolds and runs with numbers, by the tables of the document."""

from takenup.blocks import Block

LENGTHS = {"fine": 5, "coarse": 127}
FIRST = {"reading": "far", "unit": "fine", "zero": 0, "way": "rapid", "tool": 0, "pace": 0, "spindle": "still"}


def do_block(words, numbers, block):
    """Changes the dict of words and the dict of axes to dicts of registers; returns the pair of positions if it marks."""
    words.update(dict(block.words))
    ahead = {axis: numbers[axis]["p"] for axis in numbers}
    unit, zero = LENGTHS[words["unit"]], f"z{words['zero']}"
    deed = block.deed
    if deed is None:
        return None
    for axis in deed.axes:
        row = numbers[axis]
        if deed.KIND == "move":
            row["p"] = (row[zero] if words["reading"] == "far" else row["p"]) + unit * deed[axis]
        elif deed.KIND == "here":
            row[zero] = row["p"] - unit * deed[axis]
        elif deed.KIND == "lay":
            row[zero] = row[zero] + unit * deed[axis]
        elif deed.KIND == "home":
            row["p"] = row["o"]
        else:
            row["p"] = row["s"]
    if deed.KIND in ("here", "lay"):
        return None
    return ahead, {axis: numbers[axis]["p"] for axis in numbers}


def do_step(words, numbers, step):
    """Does a step; returns the row of the marks, each as the pair of the positions ahead and behind."""
    if isinstance(step, Block):
        mark = do_block(words, numbers, step)
        return [] if mark is None else [mark]
    marks = []
    for _ in range(step.count):
        for item in step.members:
            marks.extend(do_step(words, numbers, item))
    return marks


def do_run(words, numbers, program, run):
    marks = []
    for place in run[:-1]:
        marks.extend(do_step(words, numbers, program.steps[place]))
    return marks


def random_numbers(chance, machine, most=10 ** 6):
    return {axis: {name: chance.randint(-most, most) for name in machine.registers} for axis in machine.axes}


def marks_of_step(words, numbers, step):
    """Does a step; returns the parts of its marks, by the document."""
    if not isinstance(step, Block):
        return [mark for _ in range(step.count) for item in step.members for mark in marks_of_step(words, numbers, item)]
    told = do_block(words, numbers, step)
    if told is None:
        return []
    begins, ends = [tuple(row[axis] for axis in numbers) for row in told]
    if words["way"] == "rapid":
        return [("rapid", ends, None, None, None, None)]
    return [("cut", ends, begins, words["tool"], words["pace"], words["spindle"])]
