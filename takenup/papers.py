"""Papers: answers together with what shows them."""


def fixed(value):
    """The value with lists as tuples and dicts as tuples of their pairs, all the way in."""
    if isinstance(value, (list, tuple)):
        return tuple([fixed(item) for item in value])
    if isinstance(value, dict):
        return tuple([(key, fixed(value[key])) for key in ascending_keys(value)])
    return value


def ascending_keys(table):
    """The keys of a dict, all of which are strings or all of which are integers, ascending."""
    numbers = sorted([int(key) for key in table if isinstance(key, int)])
    names = sorted([str(key) for key in table if isinstance(key, str)])
    return numbers + names


class Paper:
    """An answer with a word and parts."""

    def __init__(self, word, *parts):
        self.word = word
        self.parts = fixed(parts)

    def __eq__(self, other):
        return isinstance(other, Paper) and self.word == other.word and self.parts == other.parts

    def __bool__(self):
        return True


class Denial(Paper):
    """A paper that says no."""

    def __init__(self, word, *parts):
        Paper.__init__(self, word, *parts)

    def __eq__(self, other):
        return isinstance(other, Paper) and self.word == other.word and self.parts == other.parts

    def __bool__(self):
        return False
