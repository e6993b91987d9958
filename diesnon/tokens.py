"""The parts of texts: names, words, digits and signs, and the numbers that digits tell."""

from diesnon.errors import BadForm
from diesnon.terms import DIGITS, LETTERS, MAX_NUMBER

MAX_DIGITS = 7
SIGNS = "+-@(),?[]<="


def is_of_row(sign):
    """True if the sign is a small letter or a digit."""
    return sign in LETTERS or sign in DIGITS


def row_end(text, at):
    """The index behind the row of small letters and digits that begins at an index."""
    while at < len(text) and is_of_row(text[at]):
        at += 1
    return at


def tokens_of(text, line):
    """The list of the parts of a text; BadForm(line) if a sign belongs to none."""
    tokens = []
    at = 0
    while at < len(text):
        end = at + 1
        if is_of_row(text[at]):
            end = row_end(text, at)
        elif text[at:at + 2] == "<=":
            end = at + 2
        elif text[at] != " " and text[at] not in SIGNS:
            raise BadForm(line)
        if text[at] != " ":
            tokens.append(text[at:end])
        at = end
    return tokens


def digits_value(text):
    """The number that digits tell, None if the text is none that may be written."""
    if not 1 <= len(text) <= MAX_DIGITS or not all([sign in DIGITS for sign in text]):
        return None
    if text[0] == "0" and text != "0":
        return None
    told = int(text)
    return told if told <= MAX_NUMBER else None


def number_value(text):
    """The number that digits, perhaps behind a minus sign, tell; None if the text is none."""
    if not text.startswith("-"):
        return digits_value(text)
    told = digits_value(text[1:])
    return None if told is None else -told
