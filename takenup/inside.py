"""Finding a block inside a step, and what happens in the step ahead of it."""

from takenup.checks import is_within
from takenup.effects import joined_effect, raised_effect, same_effect, step_effect, turn_effect
from takenup.items import Told
from takenup.word_rows import laid, said_by


def block_inside(step, inside):
    """The block to which any value leads inside a step, by turns and indexes; None if it leads to none, or further."""
    if not isinstance(inside, tuple):
        return None
    while isinstance(step, Told):
        if len(inside) < 2 or not is_within(inside[0], 0, step.count - 1):
            return None
        if not is_within(inside[1], 0, len(step.members) - 1):
            return None
        step = step.members[inside[1]]
        inside = inside[2:]
    return step if len(inside) == 0 else None


def row_inside(step, row, inside):
    """The row of words ahead of the block inside a step, ahead of which the words of the row hold."""
    while isinstance(step, Told):
        turn, index = inside[:2]
        inside = inside[2:]
        row = row_in_turn(step, row, turn)
        for item in step.members[:index]:
            row = laid(row, said_by(item))
        step = step.members[index]
    return row


def effect_inside(many, axis, step, row, inside):
    """The effect of all that is done in a step ahead of the block inside it."""
    effect = same_effect(many)
    while isinstance(step, Told):
        turn, index = inside[:2]
        inside = inside[2:]
        if turn > 0:
            effect = joined_effect(effect, turn_effect(many, row, step, axis))
            row = row_in_turn(step, row, turn)
            effect = joined_effect(effect, raised_effect(turn_effect(many, row, step, axis), turn - 1))
        for item in step.members[:index]:
            effect = joined_effect(effect, step_effect(many, row, item, axis))
            row = laid(row, said_by(item))
        step = step.members[index]
    return effect


def row_in_turn(told, row, turn):
    """The row ahead of a turn of a told."""
    return row if turn == 0 else laid(row, said_by(told))
