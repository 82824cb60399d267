"""Sums: a register, and a number that is added to what it holds."""

from takenup.checks import is_integer
from takenup.cursor import Cursor, whole_number
from takenup.errors import BadSum

PART = 1000000000000000000
PART_DIGITS = 18


class Sum:
    """What a register holds, plus a number."""

    NAMES = ("p", "z0", "z1", "z2", "z3", "o", "s")

    def __init__(self, source, number=0):
        if not isinstance(source, str) or source not in Sum.NAMES:
            raise BadSum("source")
        if not is_integer(number):
            raise BadSum("number")
        self.source = source
        self.number = number
        self.rank = Sum.NAMES.index(source)

    def __add__(self, other):
        if not is_integer(other):
            raise BadSum("number")
        return Sum(self.source, self.number + other)

    def __sub__(self, other):
        if not is_integer(other):
            raise BadSum("number")
        return Sum(self.source, self.number - other)

    def apart(self, other):
        """The number less that of the other sum, None if the sources are not the same."""
        if not isinstance(other, Sum):
            raise BadSum("other")
        return self.number - other.number if self.source == other.source else None

    def value_in(self, numbers):
        """What the sum stands for if the registers hold these numbers."""
        if not isinstance(numbers, dict) or not is_integer(numbers.get(self.source)):
            raise BadSum("numbers")
        return numbers[self.source] + self.number

    def __eq__(self, other):
        if not isinstance(other, Sum):
            return NotImplemented
        return (self.rank, self.number) == (other.rank, other.number)

    def __lt__(self, other):
        if not isinstance(other, Sum):
            return NotImplemented
        return (self.rank, self.number) < (other.rank, other.number)

    def __le__(self, other):
        if not isinstance(other, Sum):
            return NotImplemented
        return (self.rank, self.number) <= (other.rank, other.number)

    def __gt__(self, other):
        if not isinstance(other, Sum):
            return NotImplemented
        return (self.rank, self.number) > (other.rank, other.number)

    def __ge__(self, other):
        if not isinstance(other, Sum):
            return NotImplemented
        return (self.rank, self.number) >= (other.rank, other.number)

    def __str__(self):
        if self.number == 0:
            return str(self.source)
        return f"{self.source}{signed_digits(self.number)}"

    @staticmethod
    def read(text):
        """The sum with this text."""
        cursor = Cursor(text)
        told = sum_of(cursor.ahead())
        if told is None:
            cursor.refuse()
        cursor.go_on()
        cursor.need_end()
        return told


def signed_digits(number):
    """The sign and the digits of an integer that is not 0."""
    return f"+{digits_of(number)}" if number > 0 else f"-{digits_of(-number)}"


def digits_of(number):
    """The digits of an integer from 0 on. Python refuses to write very long ones at once, but texts are compared."""
    parts = []
    while number >= PART:
        parts.append(str(number % PART).zfill(PART_DIGITS))
        number = number // PART
    parts.append(str(number))
    return "".join(parts[::-1])


def sum_of(word):
    """The sum with this word as its text, None if there is none."""
    for source in Sum.NAMES:
        if word.startswith(source):
            return sum_behind(source, word.removeprefix(source))
    return None


def sum_behind(source, rest):
    """The sum with this source, whose text goes on with rest, None if there is none."""
    if rest == "":
        return Sum(source)
    number = whole_number(rest[1:])
    if number is None or number <= 0:
        return None
    if rest.startswith("+"):
        return Sum(source, number)
    return Sum(source, -number) if rest.startswith("-") else None


def take_kept_sum(cursor):
    """Passes the next word, which must be a sum of a kept register, and returns that."""
    word = cursor.ahead()
    told = None if word is None else sum_of(word)
    if told is None or told.source == "p":
        cursor.refuse()
    cursor.go_on()
    return told
