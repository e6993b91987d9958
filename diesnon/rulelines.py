"""Reads the line of a calendar rule."""

from diesnon.errors import BadForm
from diesnon.rows import Row
from diesnon.terms import MAX_RULES, is_rule
from diesnon.tokens import number_value


class RuleRow(Row):
    """The words of the line of a calendar rule."""

    def take_number(self):
        """Takes a number and returns it."""
        return told_number(self.take(), self.line)

    def take_stretch(self):
        """Takes two numbers with two dots between them and returns the pair."""
        first, _, last = self.take().partition("..")
        return told_number(first, self.line), told_number(last, self.line)


def told_number(text, line):
    """The number of a text, BadForm(line) if it is none."""
    told = number_value(text)
    if told is None:
        raise BadForm(line)
    return told


def read_run(words):
    """The run of a rule; 0, which is not written, if there is none."""
    if not words.took("run"):
        return 0
    run = words.take_number()
    if run < 1:
        raise BadForm(words.line)
    return run


def read_known(words):
    """The known days of a rule, which end its line."""
    if not words.took("known"):
        return ()
    first = words.take_number()
    words.take_part("to")
    last = words.take_number()
    closed = []
    if words.took("closed"):
        closed.append(words.take_stretch())
        while not words.is_over():
            closed.append(words.take_stretch())
    return first, last, tuple(closed)


def read_rule(text, earlier, line):
    """The calendar rule of a line behind the rules of the list `earlier`.

    Raises BadForm(line) if the line is none, also if it does not go with the earlier rules.
    """
    words = RuleRow(text.split(" "), line)
    words.take_part("calendar")
    name = words.take_name()
    run = read_run(words)
    within = words.take_name() if words.took("within") else ""
    rule = (name, run, within, read_known(words))
    good = is_rule(rule, [other[0] for other in earlier])
    if not words.is_over() or not good or len(earlier) >= MAX_RULES:
        raise BadForm(line)
    return rule
