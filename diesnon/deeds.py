"""Deeds as words: read from the words of a line, written, and done on a docket."""

from diesnon.terms import is_name
from diesnon.tokens import number_value
from diesnon.writer import stretch_texts


def stretch_value(text):
    """The pair of the days of a stretch; a day is None where there is no number."""
    first, _, last = text.partition("..")
    return number_value(first), number_value(last)


def publication(words):
    """The deed of the words of a publication, None if it is none."""
    last = number_value(words[2])
    if last is None or not is_name(words[1]):
        return None
    closed = tuple([stretch_value(word) for word in words[4:]])
    if len(words) > 3 and (words[3] != "closed" or len(closed) == 0):
        return None
    if not all([first is not None and end is not None for first, end in closed]):
        return None
    return words[0], words[1], last, closed


def deed_of(words):
    """The deed of the words of a line, None if it is none."""
    word, count = words[0], len(words)
    if word == "publish" and count >= 3:
        return publication(words)
    if word == "withdraw" and count == 2 and is_name(words[1]):
        return word, words[1]
    if (word in ("file", "correct") and count == 3 and is_name(words[1])) or (word == "advance" and count == 2):
        day = number_value(words[-1])
        return None if day is None else (*words[:-1], day)
    return None


def deed_text(deed):
    """The line of a deed."""
    if deed[0] == "publish":
        _, calendar, last, closed = deed
        return f"publish {calendar} {last}" + stretch_texts(closed)
    return " ".join([str(part) for part in deed])


def do_deed(docket, deed):
    """Does a deed on a docket."""
    word = deed[0]
    if word == "file":
        docket.file(deed[1], deed[2])
    elif word == "correct":
        docket.correct(deed[1], deed[2])
    elif word == "withdraw":
        docket.withdraw(deed[1])
    elif word == "publish":
        docket.publish(deed[1], deed[2], deed[3])
    else:
        docket.advance(deed[1])
