"""What can stand in texts of values: signs, strings and keys."""

SIGNS = ("[", "]", "{", "}", ",", "=")
LETTERS = "abcdefghijklmnopqrstuvwxyzABCDEFGHIJKLMNOPQRSTUVWXYZ0123456789"
WRITABLE = "abcdefghijklmnopqrstuvwxyzABCDEFGHIJKLMNOPQRSTUVWXYZ0123456789+-=;() "
MOST_SIGNS = 400
MOST_IN_KEY = 12
MOST_DEEP = 30


def is_writable(text):
    """Whether a string can stand in a text."""
    if text == "":
        return True
    # What can be stripped off from both ends until nothing is left consists of these alone.
    if len(text) > MOST_SIGNS or text.strip(WRITABLE) != "":
        return False
    return all([word != "" and word not in SIGNS for word in text.split(" ")])


def is_key(value):
    """Whether any value can be a key of a dict in a text."""
    return isinstance(value, str) and 1 <= len(value) <= MOST_IN_KEY and value.strip(LETTERS) == ""
