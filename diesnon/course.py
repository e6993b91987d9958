"""The course of a history: which rules of a book are called, met and missed in it."""

from diesnon.meaning import part_told
from diesnon.terms import folded


class Course:
    """What happens in a history of a book.

    `days` has the days of the events and rules that happen, `dues` the due days of the rules
    that are called, under their names.
    """

    def __init__(self, book, history):
        calendars, filings = history
        self.world = (calendars, (), ())
        self.filed = {event: day for event, day in filings}
        self.days = {event: day for event, day in filings}
        self.dues = {}
        for rule in book[2]:
            self.go_on(rule)

    def go_on(self, rule):
        """Takes the next rule in."""
        name, on, when, due, met = rule
        if on not in self.days or not self.meaning(when):
            return
        day = self.meaning(due)
        if day is None:
            return
        self.dues[name] = day
        if met not in self.filed or self.filed[met] > day:
            self.days[name] = day + 1

    def outcome(self, rule):
        """The outcome of a rule that is taken in."""
        name = rule[0]
        called, missed = name in self.dues, name in self.days
        return name, called, self.dues.get(name), called and not missed, missed

    def meaning(self, node):
        """The value of a case term, None if it has none, or whether a case condition holds."""
        return folded(node, lambda part, told: self.told_of(part, told))[0]

    def told_of(self, part, told):
        """What a node means whose parts mean what is told, and whether all its days are there."""
        word = part[0]
        if word == "day":
            return self.days.get(part[1]), part[1] in self.days
        if word == "due":
            return self.dues.get(part[1]), part[1] in self.dues
        if word == "filed":
            return part[1] in self.filed, True
        if word == "called":
            return part[1] in self.dues, True
        if word == "missed":
            return part[1] in self.days, True
        worths = [worth for worth, _ in told]
        whole = all([there for _, there in told])
        if whole or word in ("not", "and", "or"):
            return part_told(self.world, part, worths), whole
        return (False if word in ("le", "is") else None), False
