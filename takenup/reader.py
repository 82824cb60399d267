"""Reading texts of values."""

from takenup.cursor import Cursor
from takenup.errors import BadText
from takenup.kind_words import READERS, read_machine, take_text
from takenup.paper_words import COUNTS, can_be_made, is_paper_word, made_paper
from takenup.signs import MOST_DEEP, SIGNS, is_key, is_writable


def read_value(text, line=0):
    """The value with this text."""
    try:
        return read_whole_value(text)
    except BadText as wrong:
        raise BadText(line, wrong.word)


def read_lines(page):
    """The tuple of the values of the lines of a page."""
    if not isinstance(page, str):
        raise BadText(0, 0)
    if page == "":
        return ()
    return tuple([read_value(text, at) for at, text in enumerate(page.split("\n"))])


def read_whole_value(text):
    """The value with this text, the first line of a page."""
    cursor = Cursor(text)
    value = take_value(cursor, 0, False)
    cursor.need_end()
    return value


def take_value(cursor, deep, is_in_paper):
    """The value whose text lies ahead, within so many brackets."""
    word = cursor.ahead()
    if word is None:
        cursor.refuse()
    if word == "[":
        return take_row(cursor, deep + 1, is_in_paper)
    if word == "{" and not is_in_paper:
        return take_dict(cursor, deep + 1)
    if word.startswith("'"):
        return take_string(cursor)
    if word == "machine":
        return take_text(cursor, read_machine, words_to_sign(cursor))
    if is_paper_word(word):
        return take_paper(cursor, deep + 1)
    if word in READERS:
        cursor.go_on()
        read = READERS[word]
        return take_text(cursor, read, words_to_sign(cursor))
    if cursor.take_if("none"):
        return None
    return cursor.take_integer()


def words_to_sign(cursor):
    """How many words lie ahead of the next sign, or of the end."""
    words = cursor.words
    at = cursor.at
    while at < len(words) and words[at] not in SIGNS:
        at += 1
    return at - cursor.at


def take_string(cursor):
    """The string that lies ahead, up to a sign or to the end."""
    text = cursor.ahead().removeprefix("'")
    if not is_writable(text):
        cursor.refuse()
    cursor.go_on()
    while cursor.ahead() is not None and cursor.ahead() not in SIGNS:
        longer = f"{text} {cursor.ahead()}"
        if not is_writable(longer):
            cursor.refuse()
        text = longer
        cursor.go_on()
    return text


def take_row(cursor, deep, is_in_paper):
    """The tuple that lies ahead. Its own bracket counts as one that it stands within."""
    take_bracket(cursor, "[", deep)
    if cursor.take_if("]"):
        return ()
    values = [take_value(cursor, deep, is_in_paper)]
    while not cursor.take_if("]"):
        cursor.need_word(",")
        values.append(take_value(cursor, deep, is_in_paper))
    return tuple(values)


def take_dict(cursor, deep):
    """The dict that lies ahead."""
    take_bracket(cursor, "{", deep)
    table = {}
    if cursor.take_if("}"):
        return table
    key = take_key(cursor, "")
    table[key] = take_value(cursor, deep, False)
    while not cursor.take_if("}"):
        cursor.need_word(",")
        key = take_key(cursor, key)
        table[key] = take_value(cursor, deep, False)
    return table


def take_key(cursor, latest):
    """The key behind the latest one, with the sign behind it."""
    key = cursor.ahead()
    if not is_key(key) or key <= latest:
        cursor.refuse()
    cursor.go_on()
    cursor.need_word("=")
    return key


def take_paper(cursor, deep):
    """The paper that lies ahead."""
    word = cursor.ahead()
    cursor.go_on()
    many = COUNTS[word]
    if many is None:
        parts = take_row(cursor, deep, True)
        if not can_be_made(word, parts):
            raise BadText(0, cursor.at - 1)
        return made_paper(word, parts)
    take_bracket(cursor, "[", deep)
    parts = [take_value(cursor, deep, True)]
    while len(parts) < many:
        cursor.need_word(",")
        parts.append(take_value(cursor, deep, True))
    cursor.need_word("]")
    return made_paper(word, parts)


def take_bracket(cursor, sign, deep):
    """Passes an opening bracket, unless it stands within too many."""
    if deep > MOST_DEEP:
        cursor.refuse()
    cursor.need_word(sign)
