"""A case under way: what is filed and known of it so far, and the deeds that brought it there."""

from diesnon.errors import Missing, Never, NotAllowed, TooLarge
from diesnon.stretches import both, closed_days, is_closed_days
from diesnon.worlds import keeps_rules, pairs_of

MAX_DAY = 1000000
MAX_DEEDS = 200


def least_calendars(rules):
    """The calendars with the fewest closed days that the known days and those around them allow."""
    table = {}
    for name, _, within, known in rules:
        closed = known[2] if known else ()
        table[name] = both(closed, table[within]) if within else closed
    return table


def check_calendars(rules):
    """Raises Never if no calendars keep the rules."""
    # More closed days help no rule, so those with the fewest ones tell it.
    if not keeps_rules((pairs_of(least_calendars(rules)), (), ()), rules):
        raise Never("no calendars keep the rules")


def is_in_range(day):
    """True if the day may be one of a docket."""
    return -MAX_DAY <= day <= MAX_DAY


class State:
    """How things stand in a docket: today, the days of the filings, and the calendar rules."""

    def __init__(self, now, filed, calendars):
        self.now = now
        self.filed = filed
        self.calendars = calendars


class Docket:
    """A docket of a book. A state is never changed: each deed adds a new one."""

    def __init__(self, book, begin):
        if not is_in_range(begin):
            raise NotAllowed("the first day is out of range")
        check_calendars(book[0])
        self.own_book = book
        self.first_day = begin
        self.done = []
        self.states = [State(begin, {}, book[0])]

    def book(self):
        """The book, with its own calendar rules."""
        return self.own_book

    def begin(self):
        """The first day."""
        return self.first_day

    def today(self):
        """Today."""
        return self.states[-1].now

    def filings(self):
        """The pairs of the events that are filed and their days, in ascending order."""
        return pairs_of(self.states[-1].filed)

    def rules(self):
        """The calendar rules of the docket, in the order of the book."""
        return self.states[-1].calendars

    def deeds(self):
        """The deeds, in order."""
        return tuple(self.done)

    def check_event(self, event, filed):
        """Raises Missing if there is no such event, NotAllowed if it is not filed, or is, as told."""
        if event not in self.own_book[1]:
            raise Missing(event)
        if (event in self.states[-1].filed) != filed:
            raise NotAllowed("the event is filed already, or is not filed")

    def check_day(self, day):
        """Raises NotAllowed if an event cannot be filed with the day."""
        if not is_in_range(day) or day > self.today():
            raise NotAllowed("an event cannot be filed with this day")

    def check_room(self):
        """Raises TooLarge if no further deed is kept."""
        if len(self.done) >= MAX_DEEDS:
            raise TooLarge("there are too many deeds")

    def keep(self, deed, now, filed, calendars):
        """Keeps a deed, and the state behind it."""
        self.check_room()
        self.done.append(deed)
        self.states.append(State(now, filed, calendars))

    def set_filing(self, deed):
        """Keeps a deed that files an event with a day, or with another one."""
        _, event, day = deed
        self.check_day(day)
        filed = {name: told for name, told in self.filings()}
        filed[event] = day
        self.keep(deed, self.today(), filed, self.rules())

    def file(self, event, day):
        """Files an event with a day."""
        self.check_event(event, False)
        self.set_filing(("file", event, day))

    def correct(self, event, day):
        """Corrects the day of an event that is filed."""
        self.check_event(event, True)
        self.set_filing(("correct", event, day))

    def withdraw(self, event):
        """Takes the filing of an event away."""
        self.check_event(event, True)
        filed = {name: told for name, told in self.filings() if name != event}
        self.keep(("withdraw", event), self.today(), filed, self.rules())

    def published(self, rule, last, closed):
        """The calendar rule of the docket whose known days go on up to the day `last`."""
        name, run, within, known = rule
        first, begin, before = (known[0], known[1] + 1, known[2]) if known else (self.first_day, self.first_day, ())
        if not is_in_range(last) or last < begin or not is_closed_days(closed):
            raise NotAllowed("there are no new days, or these are not closed days")
        if not all([begin <= day and end <= last for day, end in closed]):
            raise NotAllowed("the closed days are not among the new days")
        return name, run, within, (first, last, closed_days([*before, *closed]))

    def publish(self, calendar, last, closed):
        """Makes the days of a calendar known up to the day `last`."""
        if calendar not in [rule[0] for rule in self.rules()]:
            raise Missing(calendar)
        calendars = tuple([self.published(rule, last, closed) if rule[0] == calendar else rule
                           for rule in self.rules()])
        self.check_room()
        check_calendars(calendars)
        state = self.states[-1]
        self.keep(("publish", calendar, last, closed), state.now, state.filed, calendars)

    def advance(self, day):
        """Makes a day that is not earlier today."""
        if not is_in_range(day) or day < self.today():
            raise NotAllowed("today cannot become this day")
        self.keep(("advance", day), day, self.states[-1].filed, self.rules())

    def undo(self):
        """Takes the last deed back."""
        if not self.done:
            raise NotAllowed("there is no deed")
        self.done.pop()
        self.states.pop()

    def copy(self):
        """A docket that is the same, for deeds of its own."""
        other = Docket(self.own_book, self.first_day)
        other.done = list(self.done)
        other.states = list(self.states)
        return other
