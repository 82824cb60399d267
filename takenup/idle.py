"""Which words and deeds of a program are idle, and the lean program without them."""

from takenup.blocks import Block
from takenup.errors import BadBlock
from takenup.likeness import Likeness
from takenup.needs import need_both, need_program


def without(program, place, name, *inside):
    """The program without one word of a block, or without its deed for None."""
    need_program(program)
    block = program.block_at(place, *inside)
    if name is None:
        if block.deed is None:
            raise BadBlock("deed")
        left = Block(block.words)
    else:
        if not isinstance(name, str) or name not in block.words.said:
            raise BadBlock("word")
        left = Block(block.words.with_word(name, None), block.deed)
    return program.with_block(place, left, *inside)


def is_idle(program, machine, place, name, *inside):
    """Whether a word of a block, or its deed for None, is idle."""
    need_both(program, machine)
    return Likeness(machine).is_alike(program, without(program, place, name, *inside))


def idle_words(program, machine):
    """The tuple of place, inside and name of each idle word."""
    need_both(program, machine)
    likeness = Likeness(machine)
    return tuple([site for site in word_sites(program) if is_idle_at(likeness, program, site)])


def idle_deeds(program, machine):
    """The tuple of place and inside of each idle deed."""
    need_both(program, machine)
    likeness = Likeness(machine)
    return tuple([site[:2] for site in deed_sites(program) if is_idle_at(likeness, program, site)])


def lean(program, machine):
    """The lean program that comes about by leaving out what is idle, deeds first, then words, until nothing is."""
    need_both(program, machine)
    likeness = Likeness(machine)
    left = left_out(likeness, program)
    while left != program:
        program = left
        left = left_out(likeness, program)
    return program


def word_sites(program):
    """The list of place, inside and name of all words that are said, in the order of the text."""
    sites = list(program.sites())
    return [(place, inside, name) for place, inside in sites for name in program.block_at(place, *inside).words.said]


def deed_sites(program):
    """The list of place, inside and None of all deeds, in the order of the text."""
    sites = list(program.sites())
    return [(place, inside, None) for place, inside in sites if program.block_at(place, *inside).deed is not None]


def is_idle_at(likeness, program, site):
    """Whether a word or deed is idle."""
    place, inside, name = site
    return likeness.is_alike(program, without(program, place, name, *inside))


def left_out(likeness, program):
    """The program without each deed, then without each word, that is idle when its turn comes."""
    for sites in (deed_sites(program), word_sites(program)):
        for site in sites:
            if is_idle_at(likeness, program, site):
                place, inside, name = site
                program = without(program, place, name, *inside)
    return program
