"""[11.3], the lines of scripts, and the section diesnon/lines.py of the interface."""

import unittest

from diesnon.lines import read_command


class Lines(unittest.TestCase):
    def test_good(self):
        for line, told in (
            ("", ()), ("calendar court run 2", ("calendar", "calendar court run 2")), ("calendar", ("calendar", "calendar")),
            ("calendar  x %", ("calendar", "calendar  x %")), ("event ", ("event", "event ")), ("event", ("event", "event")),
            ("rule b  on", ("rule", "rule b  on")), ("rule", ("rule", "rule")),
            ("assume x <= y", ("assume", "x <= y")), ("assume  x", ("assume", " x")), ("assume", ("assume", "")),
            ("assume ", ("assume", "")), ("assume x ", ("assume", "x ")), ("decide a | b", ("decide", "a | b")),
            ("need [[", ("need", "[[")), ("need", ("need", "")), ("always filed x", ("always", "filed x")), ("stand", ("stand", "")),
            ("stand  ", ("stand", " ")),
            ("most x | y", ("most", "x ", " y")), ("most x|y", ("most", "x", "y")), ("span x  |  y ", ("span", "x  ", "  y ")),
            ("orders |", ("orders", "", "")), ("orders x |", ("orders", "x ", "")), ("most | y", ("most", "", " y")),
            ("span a|b|c", ("span", "a", "b|c")), ("most  |", ("most", " ", "")),
            ("run court x <= y", ("run", "court", "x <= y")), ("run court", ("run", "court", "")),
            ("run court ", ("run", "court", "")), ("run court  x", ("run", "court", " x")),
            ("drop 0", ("drop", 0)), ("drop 7", ("drop", 7)), ("drop 999", ("drop", 999)), ("drop 30", ("drop", 30)),
            ("behind a b2", ("behind", "a", "b2")), ("unused", ("unused",)), ("undo", ("undo",)), ("text", ("text",)),
            ("open 0", ("open", 0)), ("open -0", ("open", 0)), ("open -1000000", ("open", -1000000)), ("open 1000000", ("open", 1000000)),
            ("file a 3", ("file", "a", 3)), ("correct a -3", ("correct", "a", -3)), ("withdraw a", ("withdraw", "a")),
            ("advance 12", ("advance", 12)), ("advance -0", ("advance", 0)), ("publish c 3", ("publish", "c", 3, ())),
            ("publish c 3 closed 1..2", ("publish", "c", 3, ((1, 2),))),
            ("publish c -3 closed -9..-0 4..3 4..4", ("publish", "c", -3, ((-9, 0), (4, 3), (4, 4)))),
            ("due r", ("due", "r")), ("fixed r", ("fixed", "r")),
        ):
            self.assertEqual(read_command(line), told, line)

    def test_bad(self):
        for line in (
            " ", "x", "Assume x", " assume x", "assumex", "assume\tx", "decides x", "calendars x", "calendarx", "eventx", "ruleb",
            "most", "most ", "most x", "most|", "most|x", "span x y", "orders", "run", "run ", "run  court x", "run Court x",
            "run court2x! yes", "run 3 yes", "run due yes", "run abcdefghijklmnopqrstu yes",
            "drop", "drop ", "drop 00", "drop 01", "drop -0", "drop -1", "drop 1000", "drop 9999999", "drop x", "drop  1", "drop 1 ",
            "drop 1 2", "drop +1", "behind", "behind a", "behind a ", "behind a b ", "behind a  b", "behind a b c", "behind A b",
            "behind a due", "unused ", "unused x", "undo ", "undo 1", "text ", "text x", "open", "open ", "open x", "open 01",
            "open 1000001", "open -1000001", "open 10000000", "open 0 ", "open  0", "open 0 0", "open - 1", "open -00", "open 1 000",
            "file", "file a", "file a ", "file a b", "file A 3", "file 3 a", "file a 3 ", "file a  3", "file  a 3", "file a 03",
            "file a 1000001", "file next 3", "correct a", "correct a 3 4", "withdraw", "withdraw ", "withdraw a b", "withdraw A",
            "withdraw a ", "advance", "advance ", "advance x", "advance 1 2", "publish", "publish c", "publish c x", "publish C 3",
            "publish c 3 ", "publish c 3 closed", "publish c 3 closed ", "publish c 3 close 1..2", "publish c 3 1..2",
            "publish c 3 closed 1", "publish c 3 closed 1..", "publish c 3 closed ..2", "publish c 3 closed 1..2 ",
            "publish c 3 closed 1..2  4..5", "publish c 3 closed 1 ..2", "publish c 3 closed 01..2", "publish c 3 closed 1..1000001",
            "publish c 3 closed 1...2", "publish c 3 closed 1..2..3", "publish c 3 closed 1..2 closed", "due", "due R", "due r ",
            "due r s", "fixed", "fixed ", "fixed 3", "closed 1..2", "begin 0", "claim x", "|", ";",
        ):
            self.assertIsNone(read_command(line), line)
