"""Plain forms of case nodes, which name no rules, with events as days and flags.

The forms of a rule are made once, and stand in all forms that need them.
"""

from diesnon.terms import folded, parts_of, rebuilt


def conjunction(row):
    """The conjunction of a row of conditions."""
    made = ("yes",)
    for condition in row:
        if condition != ("yes",):
            made = condition if made == ("yes",) else ("and", made, condition)
    return made


def days_named(node):
    """The pairs of a word `day` or `due` and a name in a node, each once, ascending."""
    found = {}
    rows = [node]
    while rows:
        part = rows.pop()
        if part[0] in ("day", "due"):
            found[part] = True
        rows.extend(parts_of(part))
    return sorted(found)


class Forms:
    """The called, due and missed forms of the rules of a book, under their names."""

    def __init__(self, book):
        self.called_forms = {}
        self.due_forms = {}
        self.missed_forms = {}
        for name, on, when, due, met in book[2]:
            called = conjunction([self.happening(on), self.plain(when), self.presence(due)])
            day = self.plain(due)
            self.called_forms[name] = called
            self.due_forms[name] = day
            self.missed_forms[name] = called if met == "" else conjunction([called, unmet(met, day)])

    def happening(self, name):
        """The condition that an event or a rule happens."""
        return self.missed_forms.get(name, ("flag", name))

    def presence(self, node):
        """The presence of a case node."""
        return conjunction([self.called_forms[name] if word == "due" else self.happening(name)
                            for word, name in days_named(node)])

    def plain(self, node):
        """The plain form of a case node."""
        return folded(node, lambda part, parts: self.plain_part(part, parts))

    def plain_part(self, part, parts):
        """The plain form of a node whose parts have these plain forms."""
        word = part[0]
        if word == "day" and part[1] in self.due_forms:
            return "plus", self.due_forms[part[1]], 1
        if word == "due":
            return self.due_forms[part[1]]
        if word == "filed":
            return "flag", part[1]
        if word == "called":
            return self.called_forms[part[1]]
        if word == "missed":
            return self.missed_forms[part[1]]
        if word in ("le", "is"):
            return conjunction([self.presence(part), rebuilt(part, parts)])
        return rebuilt(part, parts)


def unmet(event, day):
    """The condition that an event is not filed up to a day."""
    return "not", ("and", ("flag", event), ("le", ("day", event), day))
