"""Reading a text word by word, and telling the first word that cannot stand."""

from takenup.checks import is_within
from takenup.errors import BadText

DIGITS = "0123456789"
MOST_DIGITS = 60


def whole_number(word):
    """The integer that a word writes just as str does, None for any other word or for too many digits."""
    digits = word[1:] if word.startswith("-") else word
    if not 1 <= len(digits) <= MOST_DIGITS:
        return None
    if not all([sign in DIGITS for sign in digits]):
        return None
    if digits.startswith("0") and word != "0":
        return None
    return int(word)


class Cursor:
    """The words of a text, and the index of the next one to be read."""

    def __init__(self, text):
        if not isinstance(text, str):
            raise BadText(0, 0)
        self.words = text.split(" ")
        self.at = 0

    def ahead(self):
        """The next word, None behind the last one."""
        return self.words[self.at] if self.at < len(self.words) else None

    def go_on(self):
        """Passes the next word."""
        self.at += 1

    def refuse(self):
        """Tells that the next word cannot stand, or is missing."""
        raise BadText(0, self.at)

    def take_if(self, word):
        """Passes the next word if it is this one, and tells whether it is."""
        if self.ahead() != word:
            return False
        self.go_on()
        return True

    def need_word(self, word):
        """Passes the next word, which must be this one."""
        if not self.take_if(word):
            self.refuse()

    def take_one_of(self, words):
        """Passes the next word, which must be one of these, and returns it."""
        word = self.ahead()
        if word not in words:
            self.refuse()
        self.go_on()
        return word

    def take_integer(self):
        """Passes the next word, which must be an integer, and returns that."""
        word = self.ahead()
        number = None if word is None else whole_number(word)
        if number is None:
            self.refuse()
        self.go_on()
        return number

    def take_within(self, low, high):
        """Passes the next word, which must be an integer from low to high, and returns that."""
        word = self.ahead()
        number = None if word is None else whole_number(word)
        if not is_within(number, low, high):
            self.refuse()
        self.go_on()
        return number

    def need_end(self):
        """Refuses a word too many."""
        if self.ahead() is not None:
            self.refuse()
