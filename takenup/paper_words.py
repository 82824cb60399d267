"""The papers that have a text: by their words, how many parts they have, and how they are made of these."""

from takenup.alike import Alike, Unalike
from takenup.back import Back, NoWay, Since
from takenup.cuts import Cuts, Endless
from takenup.heights import Free, Most, Rising
from takenup.least import Least, Made
from takenup.making import Making
from takenup.pairs import PairTable, Parting, PlainTable, Want
from takenup.powers import Rounds
from takenup.runs import Played
from takenup.serving import Served, Unserved
from takenup.tables import Table
from takenup.takeups import Choice, Refused, RefusedRow, RefusedWord, TakenUp
from takenup.tapes import Row, Tape, is_row_of_tape
from takenup.unlike import Unlike


def make_rounds(parts):
    """A Rounds of these parts."""
    return Rounds(*parts)


def make_played(parts):
    """A Played of these parts."""
    return Played(*parts)


def make_table(parts):
    """A Table of these parts."""
    return Table(*parts)


def make_unlike(parts):
    """An Unlike of these parts."""
    return Unlike(*parts)


def make_most(parts):
    """A Most of these parts."""
    return Most(*parts)


def make_rising(parts):
    """A Rising of these parts."""
    return Rising(*parts)


def make_free(parts):
    """A Free of these parts."""
    return Free(*parts)


def make_want(parts):
    """A Want of these parts."""
    return Want(*parts)


def make_parting(parts):
    """A Parting of these parts."""
    return Parting(*parts)


def make_pairtable(parts):
    """A PairTable of these parts."""
    return PairTable(*parts)


def make_plaintable(parts):
    """A PlainTable of these parts."""
    return PlainTable(*parts)


def make_alike(parts):
    """An Alike of these parts."""
    return Alike(*parts)


def make_unalike(parts):
    """An Unalike of these parts."""
    return Unalike(*parts)


def make_served(parts):
    """A Served of these parts."""
    return Served(*parts)


def make_unserved(parts):
    """An Unserved of these parts."""
    return Unserved(*parts)


def make_choice(parts):
    """A Choice of these parts."""
    return Choice(*parts)


def make_takenup(parts):
    """A TakenUp of these parts."""
    return TakenUp(*parts)


def make_refusedword(parts):
    """A RefusedWord of these parts."""
    return RefusedWord(*parts)


def make_refused(parts):
    """A Refused of these parts."""
    return Refused(*parts)


def make_refusedrow(parts):
    """A RefusedRow of these parts."""
    return RefusedRow(*parts)


def make_making(parts):
    """A Making of these parts."""
    return Making(*parts)


def make_made(parts):
    """A Made of these parts."""
    return Made(*parts)


def make_least(parts):
    """A Least of these parts."""
    return Least(*parts)


def make_since(parts):
    """A Since of these parts."""
    return Since(*parts)


def make_back(parts):
    """A Back of these parts."""
    return Back(*parts)


def make_noway(parts):
    """A NoWay of these parts."""
    return NoWay(*parts)


def make_cuts(parts):
    """A Cuts of these parts."""
    return Cuts(*parts)


def make_endless(parts):
    """An Endless of these parts."""
    return Endless(*parts)


def make_row(parts):
    """A Row of these parts."""
    return Row(*parts)


def make_tape(parts):
    """A Tape of these parts."""
    return Tape(*parts)


MAKERS = {
    "rounds": make_rounds,
    "played": make_played,
    "table": make_table,
    "unlike": make_unlike,
    "most": make_most,
    "rising": make_rising,
    "free": make_free,
    "want": make_want,
    "parting": make_parting,
    "pairtable": make_pairtable,
    "plaintable": make_plaintable,
    "alike": make_alike,
    "unalike": make_unalike,
    "served": make_served,
    "unserved": make_unserved,
    "choice": make_choice,
    "takenup": make_takenup,
    "refusedword": make_refusedword,
    "refused": make_refused,
    "refusedrow": make_refusedrow,
    "making": make_making,
    "made": make_made,
    "least": make_least,
    "since": make_since,
    "back": make_back,
    "noway": make_noway,
    "cuts": make_cuts,
    "endless": make_endless,
    "row": make_row,
    "tape": make_tape,
}
# Of a tape any number.
COUNTS = {
    "rounds": 3,
    "played": 3,
    "table": 1,
    "unlike": 2,
    "most": 3,
    "rising": 3,
    "free": 1,
    "want": 6,
    "parting": 4,
    "pairtable": 2,
    "plaintable": 1,
    "alike": 2,
    "unalike": 2,
    "served": 5,
    "unserved": 3,
    "choice": 2,
    "takenup": 2,
    "refusedword": 3,
    "refused": 1,
    "refusedrow": 3,
    "making": 2,
    "made": 2,
    "least": 2,
    "since": 3,
    "back": 3,
    "noway": 3,
    "cuts": 3,
    "endless": 3,
    "row": 3,
    "tape": None,
}


def is_paper_word(word):
    """Whether any value is the word of a paper that has a text."""
    return isinstance(word, str) and word in MAKERS


def can_be_made(word, parts):
    """Whether the class of a paper's word takes these parts."""
    many = COUNTS[word]
    return len(parts) == many if many is not None else all([is_row_of_tape(part) for part in parts])


def made_paper(word, parts):
    """The paper of a word and the parts that its class takes."""
    make = MAKERS[word]
    return make(parts)
