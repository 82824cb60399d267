"""Random acts of controls, right and wrong ones."""

from kinds import any_values, random_block
from plain_control import check_act
from takenup.blocks import Block
from takenup.preambles import Preamble
from takenup.standing import Standing, values_of
from takenup.stands import Stand


def random_words(chance, machine):
    return Standing(**{name: chance.choice(values_of(name, machine)) for name in Standing.NAMES})


def random_stand(chance, machine):
    return Stand(machine, **{
        axis: {name: chance.randint(-10 ** 6, 10 ** 6) for name in machine.registers} for axis in machine.axes
    })


def random_preamble(chance, machine):
    blocks = []
    for _ in range(chance.randint(0, 4)):
        block = random_block(chance, len(machine.axes), machine.zeros) | Standing(way="rapid")
        block = Block(Standing.read("far fine zero 0") | block.words, block.deed)
        blocks.append(Block(block.words) if block.is_storing else block)
    return Preamble(*blocks)


def random_act(chance, control, others):
    """The name of an act and its arguments, right ones mostly."""
    machine, values = control.machine, any_values()
    places = control.program.after(control.place)
    place = chance.choice(places) if places and chance.random() < 0.9 else chance.choice(values + list(range(5)))
    roll = chance.random()
    if control.is_broken and chance.random() < 0.7:
        if roll < 0.35:
            return "resume", (), {}
        if roll < 0.6:
            return "take_up", (random_preamble(chance, machine),), {}
        if roll < 0.9:
            preamble = random_preamble(chance, machine)
            return "take_up", (preamble, chance.choice([None, True, -1, *range(len(preamble.blocks) + 2)])), {}
        return "take_up", (chance.choice(values), chance.choice(values)), {}
    if roll < 0.4:
        return chance.choice(["step", "step", "step", "leap"]), (place,), {}
    if roll < 0.52:
        words = chance.choice([None, None, random_words(chance, machine), random_words(chance, machine), chance.choice(values), Standing()])
        numbers = {axis: chance.randint(-99, 99) for axis in machine.axes if chance.random() < 0.5}
        if chance.random() < 0.1:
            numbers[chance.choice(["x", "y", "w", "q"])] = chance.choice(values)
        return "break_off", (words,), numbers
    if roll < 0.6:
        return "go_over", (chance.choice(others + [chance.choice(values)]),), {}
    if roll < 0.65:
        return chance.choice(["resume", "take_up"]), (), {}
    return chance.choice(["undo", "undo", "again"]), (), {}


def tried_act(test, plain, control, act):
    name, args, more = act
    if name == "take_up" and not args:
        args = (Preamble(),)
    return check_act(test, plain, control, name, *args, **more)
