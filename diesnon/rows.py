"""The parts of a text, taken one after another."""

from diesnon.errors import BadForm
from diesnon.terms import is_name


class Row:
    """A list of texts that are parts of a line, and the place up to which they are taken."""

    def __init__(self, parts, line):
        self.parts = list(parts)
        self.at = 0
        self.line = line

    def is_over(self):
        """True if all parts are taken."""
        return self.at >= len(self.parts)

    def look(self):
        """The next part, the empty text at the end."""
        return "" if self.is_over() else self.parts[self.at]

    def take(self):
        """Takes the next part and returns it, the empty text at the end."""
        part = self.look()
        self.at += 1
        return part

    def took(self, part):
        """Takes the next part if it is this one, and tells whether it was."""
        if self.is_over() or self.look() != part:
            return False
        self.at += 1
        return True

    def take_part(self, part):
        """Takes the next part, which has to be this one."""
        if not self.took(part):
            raise BadForm(self.line)

    def take_name(self):
        """Takes a name and returns it."""
        name = self.take()
        if not is_name(name):
            raise BadForm(self.line)
        return name
