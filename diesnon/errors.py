"""The errors that the program raises."""


class DiesError(ValueError):
    """The base class of all errors of the program."""


class NotAllowed(DiesError):
    """An argument is not what it has to be."""


class TooLarge(DiesError):
    """Something is larger or deeper than its limit."""


class Never(DiesError):
    """There is nothing of the kind that is asked for."""


class BadForm(DiesError):
    """A text is not of its form; `line` is the number of the line, from 1 on."""

    def __init__(self, line):
        super().__init__(f"line {line} is not of its form")
        self.line = line


class Missing(DiesError):
    """Something with the name `name` is not there."""

    def __init__(self, name):
        super().__init__(f"{name} is missing")
        self.name = name
