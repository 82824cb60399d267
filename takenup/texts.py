"""Texts of values of many kinds, each of one line."""

from takenup.errors import BadPaper
from takenup.kind_words import is_short, kind_of, kind_text
from takenup.machines import Machine
from takenup.paper_words import can_be_made, is_paper_word
from takenup.papers import Paper
from takenup.signs import MOST_DEEP, is_key, is_writable


def text_of(value):
    """The text of any value that has one."""
    text = text_within(value, 0)
    if text is None:
        raise BadPaper("value")
    return text


def is_told(value):
    """Whether any value has a text."""
    return text_within(value, 0) is not None


def page_of(*values):
    """The texts of values, one on each line."""
    texts = [text_within(value, 0) for value in values]
    for at, text in enumerate(texts):
        if text is None:
            raise BadPaper(at)
    return "\n".join(texts)


def text_within(value, deep):
    """The text of any value that stands within so many brackets, None if it has none."""
    if value is None:
        return "none"
    if isinstance(value, int):
        return str(value) if is_short(value) else None
    if isinstance(value, str):
        return f"'{value}" if is_writable(value) else None
    if isinstance(value, (list, tuple)):
        return row_text_within(value, deep + 1)
    if isinstance(value, dict):
        return dict_text_within(value, deep + 1)
    if isinstance(value, Machine):
        return str(value)
    kind = kind_of(value)
    if kind is not None:
        return kind_text(kind, value)
    return paper_text_within(value, deep) if isinstance(value, Paper) else None


def row_text_within(values, deep):
    """The text of a row of any values, None if it has none. Its own bracket counts as one that it stands within."""
    if deep > MOST_DEEP:
        return None
    texts = [text_within(value, deep) for value in values]
    if None in texts:
        return None
    return f"[ {joined_texts(texts)} ]" if len(texts) > 0 else "[ ]"


def dict_text_within(table, deep):
    """The text of a dict of any values, None if it has none."""
    if deep > MOST_DEEP or not all([is_key(key) for key in table]):
        return None
    keys = sorted([str(key) for key in table])
    texts = [text_within(table[key], deep) for key in keys]
    if None in texts:
        return None
    pairs = [f"{key} = {text}" for key, text in zip(keys, texts)]
    return " ".join(["{", joined_texts(pairs), "}"]) if len(pairs) > 0 else "{ }"


def paper_text_within(paper, deep):
    """The text of a paper, None if it has none."""
    if not is_paper_word(paper.word) or not can_be_made(paper.word, paper.parts):
        return None
    text = row_text_within(paper.parts, deep + 1)
    return None if text is None else f"{paper.word} {text}"


def joined_texts(texts):
    """Texts with commas between them."""
    return " , ".join(texts)
