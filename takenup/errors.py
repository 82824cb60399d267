"""The errors of the package, all below ToolError."""

SHOWN = 1000000000000


def shown(value):
    """A short text for a wording. Other values are not shown: the text of a huge integer cannot be made."""
    if isinstance(value, str):
        return value[:80]
    if isinstance(value, int) and -SHOWN < value < SHOWN:
        return str(value)
    return "another value"


class ToolError(ValueError):
    """The base of all errors of the package."""


class BadMachine(ToolError):
    """A part of a machine cannot be so, or something does not fit the machine."""

    def __init__(self, part):
        ToolError.__init__(self, f"bad machine: {shown(part)}")
        self.part = part


class BadWords(ToolError):
    """Standing words cannot be so."""

    def __init__(self, part):
        ToolError.__init__(self, f"bad words: {shown(part)}")
        self.part = part


class BadBlock(ToolError):
    """A block or a deed cannot be so."""

    def __init__(self, part):
        ToolError.__init__(self, f"bad block: {shown(part)}")
        self.part = part


class BadProgram(ToolError):
    """A program, a group or a part of it cannot be so."""

    def __init__(self, part):
        ToolError.__init__(self, f"bad program: {shown(part)}")
        self.part = part


class BadSum(ToolError):
    """A sum cannot be so."""

    def __init__(self, part):
        ToolError.__init__(self, f"bad sum: {shown(part)}")
        self.part = part


class BadMap(ToolError):
    """A shift cannot be so, or cannot be asked so."""

    def __init__(self, part):
        ToolError.__init__(self, f"bad shift: {shown(part)}")
        self.part = part


class BadStand(ToolError):
    """A stand cannot be so."""

    def __init__(self, part):
        ToolError.__init__(self, f"bad stand: {shown(part)}")
        self.part = part


class BadTarget(ToolError):
    """A target cannot be so."""

    def __init__(self, part):
        ToolError.__init__(self, f"bad target: {shown(part)}")
        self.part = part


class BadPaper(ToolError):
    """A paper cannot be so, or cannot be asked so."""

    def __init__(self, part):
        ToolError.__init__(self, f"bad paper: {shown(part)}")
        self.part = part


class BadControl(ToolError):
    """A value is no control."""

    def __init__(self, part):
        ToolError.__init__(self, f"bad control: {shown(part)}")
        self.part = part


class Missing(ToolError):
    """A value is none of those that there are. Only the errors below it are raised."""


class NoAxis(Missing):
    """A value is no axis here."""

    def __init__(self, axis):
        Missing.__init__(self, f"no such axis: {shown(axis)}")
        self.axis = axis


class NoRegister(Missing):
    """A value is no name of a register here."""

    def __init__(self, name):
        Missing.__init__(self, f"no such name: {shown(name)}")
        self.name = name


class NoPlace(Missing):
    """A value is no place here."""

    def __init__(self, place):
        Missing.__init__(self, f"no such place: {shown(place)}")
        self.place = place


class NoNode(Missing):
    """A place and words are no node."""

    def __init__(self, place, words):
        Missing.__init__(self, f"no such words at place: {shown(place)}")
        self.place = place
        self.words = words


class BadRun(ToolError):
    """A value is no run: the item with this index is the first one that cannot stand."""

    def __init__(self, at):
        ToolError.__init__(self, f"no run, from item on: {shown(at)}")
        self.at = at


class BadPreamble(ToolError):
    """Blocks are no preamble: the block with this index is the first one that cannot stand."""

    def __init__(self, at):
        ToolError.__init__(self, f"no preamble, from block on: {shown(at)}")
        self.at = at


class Stopped(ToolError):
    """A control is broken at this place."""

    def __init__(self, place):
        ToolError.__init__(self, f"the control is broken at place: {shown(place)}")
        self.place = place


class Running(ToolError):
    """A control at this place is not broken."""

    def __init__(self, place):
        ToolError.__init__(self, f"the control is running at place: {shown(place)}")
        self.place = place


class Nothing(ToolError):
    """There is nothing to do."""


class TooMany(ToolError):
    """There are more of something than the most that can be."""

    def __init__(self, what, most):
        ToolError.__init__(self, f"too many: {shown(what)}, most: {shown(most)}")
        self.what = what
        self.most = most


class BadText(ToolError):
    """In this line of a text this word cannot stand, or is missing."""

    def __init__(self, line, word):
        ToolError.__init__(self, f"line: {shown(line)}, wrong from word: {shown(word)}")
        self.line = line
        self.word = word


class BadLine(ToolError):
    """A line of a desk raised this error."""

    def __init__(self, line, error):
        ToolError.__init__(self, f"this line cannot be done: {shown(line)}")
        self.line = line
        self.error = error
