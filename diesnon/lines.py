"""The lines of scripts: words, and what stands behind them."""

from diesnon.deeds import deed_of
from diesnon.terms import is_name
from diesnon.tokens import digits_value, number_value

MAX_INDEX = 999


def read_whole(word, rest):
    """A line that is read as a whole later."""
    return word, word if rest is None else f"{word} {rest}"


def read_text(word, rest):
    """A line of a text."""
    return word, rest or ""


def read_texts(word, rest):
    """A line of two texts with a bar between them."""
    first, bar, second = (rest or "").partition("|")
    return None if bar == "" else (word, first, second)


def read_name_and_text(word, rest):
    """A line of a name and a text."""
    name, _, text = (rest or "").partition(" ")
    return (word, name, text) if is_name(name) else None


def read_index(word, rest):
    """A line of an index."""
    index = digits_value(rest or "")
    return None if index is None or index > MAX_INDEX else (word, index)


def read_number(word, rest):
    """A line of a number."""
    number = number_value(rest or "")
    return None if number is None else (word, number)


def read_names(word, rest):
    """A line of names, two behind `behind`, one behind other words."""
    names = (rest or "").split(" ")
    count = 2 if word == "behind" else 1
    return (word, *names) if len(names) == count and all([is_name(name) for name in names]) else None


def read_alone(word, rest):
    """A line of a word alone."""
    return (word,) if rest is None else None


def read_deed(word, rest):
    """A line of a deed."""
    return deed_of([word, *(rest or "").split(" ")])


READERS = {
    "calendar": read_whole, "event": read_whole, "rule": read_whole,
    "assume": read_text, "decide": read_text, "need": read_text, "always": read_text, "stand": read_text,
    "most": read_texts, "span": read_texts, "orders": read_texts,
    "run": read_name_and_text,
    "drop": read_index,
    "behind": read_names, "due": read_names, "fixed": read_names,
    "unused": read_alone, "undo": read_alone, "text": read_alone,
    "open": read_number,
    "file": read_deed, "correct": read_deed, "withdraw": read_deed, "publish": read_deed, "advance": read_deed,
}


def read_command(line):
    """The word of a line and what stands behind it; () for the empty line, None for a bad one."""
    if line == "":
        return ()
    word, space, rest = line.partition(" ")
    if word not in READERS:
        return None
    read = READERS[word]
    return read(word, rest if space == " " else None)
