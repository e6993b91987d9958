"""Writes plain texts: terms, conditions and questions."""

from diesnon.terms import folded


def addition_text(text, n):
    """The text of a term that n is added to."""
    return f"{text} - {-n}" if n < 0 else f"{text} + {n}"


def in_brackets(text, needed):
    """The text, with square brackets around it if they are needed."""
    return f"[{text}]" if needed else text


def joined_text(node, texts):
    """The text of an `and` or `or`."""
    word = node[0]
    # Rows are grouped from the left, so only a second part of the same kind needs brackets.
    outer = ("or",) if word == "and" else ()
    first = in_brackets(texts[0], node[1][0] in outer)
    second = in_brackets(texts[1], node[2][0] in (word, *outer))
    return f"{first} {word} {second}"


def leaf_text(node):
    """The text of a node without parts."""
    word = node[0]
    if word == "yes":
        return word
    if word == "day":
        return node[1]
    if word == "at":
        return f"@{node[1]}"
    if word == "flag":
        return f"?{node[1]}"
    return f"{word} {node[1]}"


def node_text(node, texts):
    """The text of a node whose parts have these texts."""
    word = node[0]
    if not texts:
        return leaf_text(node)
    if word == "plus":
        return addition_text(texts[0], node[2])
    if word in ("next", "prev", "is"):
        return f"{word} {node[1]}({texts[0]})"
    if word == "nth":
        return f"open {node[1]} {node[3]}({texts[0]})"
    if word == "le":
        return f"{texts[0]} <= {texts[1]}"
    if word == "not":
        operand = in_brackets(texts[0], node[1][0] in ("and", "or"))
        return f"not {operand}"
    if word in ("and", "or"):
        return joined_text(node, texts)
    listed = ", ".join(texts)
    return f"{word}({listed})"


def term_text(term):
    """The plain text of a term, also of cases."""
    return folded(term, node_text)


def condition_text(condition):
    """The plain text of a condition, also of cases."""
    return folded(condition, node_text)


def stretch_texts(closed):
    """The text of closed days behind known days, empty if there are none."""
    if closed == ():
        return ""
    listed = " ".join([f"{first}..{last}" for first, last in closed])
    return f" closed {listed}"


def rule_text(rule):
    """The line of a calendar rule."""
    name, run, within, known = rule
    text = f"calendar {name}"
    if run > 0:
        text += f" run {run}"
    if within != "":
        text += f" within {within}"
    if known != ():
        text += f" known {known[0]} to {known[1]}" + stretch_texts(known[2])
    return text


def question_text(question):
    """The text of a question."""
    rules, assumptions, claim = question
    lines = [rule_text(rule) for rule in rules]
    lines.extend([f"assume {condition_text(condition)}" for condition in assumptions])
    lines.append(f"claim {condition_text(claim)}")
    return "".join([f"{line}\n" for line in lines])
