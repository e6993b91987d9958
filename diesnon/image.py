"""Texts of dockets, written and read."""

from diesnon.deeds import deed_of, deed_text, do_deed
from diesnon.docket import Docket
from diesnon.errors import BadForm, DiesError
from diesnon.tokens import number_value


def docket_text(docket):
    """The text of the docket."""
    lines = [f"begin {docket.begin()}", *[deed_text(deed) for deed in docket.deeds()]]
    return "".join([f"{line}\n" for line in lines])


def words_of(told, line):
    """The words of a line; BadForm(line) if a number is written as `-0`."""
    words = told.split(" ")
    if "-0" in [part for word in words for part in word.split("..")]:
        raise BadForm(line)
    return words


def begun(book, told):
    """The docket of a first line."""
    words = words_of(told, 1)
    day = number_value(words[-1])
    if len(words) != 2 or words[0] != "begin" or day is None:
        raise BadForm(1)
    try:
        return Docket(book, day)
    except DiesError:
        raise BadForm(1) from None


def go_on(docket, told, line):
    """Does the deed of a line on a docket."""
    deed = deed_of(words_of(told, line))
    if deed is None:
        raise BadForm(line)
    try:
        do_deed(docket, deed)
    except DiesError:
        raise BadForm(line) from None


def load(book, text):
    """The docket for the book whose text it is."""
    lines = text.split("\n")
    rest = lines.pop()
    if not lines:
        raise BadForm(1)
    docket = begun(book, lines[0])
    for line, told in enumerate(lines[1:], start=2):
        go_on(docket, told, line)
    if rest != "":
        raise BadForm(len(lines) + 1)
    return docket


def resume(book, text):
    """The docket for the book whose text it is, but for what stands behind the last newline."""
    return load(book, text[:text.rfind("\n") + 1])
