"""A desk, and what it has so far."""

from diesnon.books import check_book
from diesnon.errors import Missing, NotAllowed


class Desk:
    """The calendar rules, assumptions, events, rules and docket of a desk, at first none of them."""

    def __init__(self):
        self.calendars = ()
        self.assumed = ()
        self.events = ()
        self.case_rules = ()
        self.docket = None

    def question(self, claim):
        """The question with this claim."""
        return self.calendars, self.assumed, claim

    def checked_book(self):
        """The book; raises NotAllowed if it is none."""
        made = self.calendars, self.events, self.case_rules
        check_book(made)
        return made

    def checked_docket(self):
        """The docket; raises Missing if there is none."""
        if self.docket is None:
            raise Missing("docket")
        return self.docket

    def check_free(self):
        """Raises NotAllowed if there is a docket, as its book is not changed any more."""
        if self.docket is not None:
            raise NotAllowed("there is a docket")
