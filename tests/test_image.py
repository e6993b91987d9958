"""[10.8], and the section diesnon/image.py of the interface."""

import random
import unittest

from diesnon.docket import Docket
from diesnon.errors import BadForm
from diesnon.futures import future_with, played
from diesnon.image import docket_text, load, resume
from tests.cases import some_book
from tests.dockets import some_docket

YES = ("yes",)
RULE = ("answer", "served", YES, ("day", "served"), "")
BOOK = ((("court", 2, "", ()), ("bank", 0, "court", ())), ("served", "reply"), (RULE,))
TEXT = ("begin -3\nfile served -3\nadvance 0\npublish court 6 closed -2..-1 5..6\nfile reply -1\ncorrect served -999999\n"
        "publish bank -3\n")


def state_of(docket):
    return (docket.book(), docket.begin(), docket.today(), docket.filings(), docket.rules(), docket.deeds())


class Texts(unittest.TestCase):
    def refused(self, text, line, call=load):
        with self.assertRaises(BadForm) as caught:
            call(BOOK, text)
        self.assertEqual(caught.exception.line, line)

    def test_written(self):
        docket = Docket(BOOK, -3)
        self.assertEqual(docket_text(docket), "begin -3\n")
        docket.file("served", -3)
        docket.advance(0)
        docket.publish("court", 6, ((-2, -1), (5, 6)))
        docket.file("reply", -1)
        docket.correct("served", -999999)
        docket.publish("bank", 6, ((-2, -1), (5, 6)))
        docket.withdraw("reply")
        docket.advance(1000000)
        text = TEXT.replace("bank -3", "bank 6 closed -2..-1 5..6") + "withdraw reply\nadvance 1000000\n"
        self.assertEqual(docket_text(docket), text)
        self.assertEqual(state_of(load(BOOK, text)), state_of(docket))
        docket.undo()
        self.assertEqual(docket_text(docket), text.replace("advance 1000000\n", ""))

    def test_first_line(self):
        for text in ("", "begin 0", "\n", "begin\n", "begin \n", " begin 0\n", "begin 0 \n", "begin  0\n", "begin 0 0\n", "open 0\n",
                     "begin x\n", "begin 00\n", "begin -0\n", "begin +1\n", "begin 01\n", "begin -01\n", "begin 1000001\n",
                     "begin -1000001\n", "begin 10000000\n", "begin 0\r\n", "file served 0\n", "Begin 0\n", "begin --1\n",
                     "\nbegin 0\n", "begin 1.0\n", "begin 0;\n"):
            self.refused(text, 1)
        for text in ("begin 0\n", "begin 1000000\n", "begin -1000000\n", "begin -1\n"):
            self.assertEqual(docket_text(load(BOOK, text)), text)

    def test_bad_lines(self):
        for line in (
            "", " ", "advance", "advance ", "advance  5", "advance 5 ", " advance 5", "advance 05", "advance -0", "advance 5 6",
            "advance 1000001", "advance 10000000", "advance x", "advance +5", "advance -1", "file served", "file served 0 0",
            "file served x", "file served 00", "file served -0", "file  served 0", "file served  0", "file x 0", "file court 0",
            "file served 1", "file Served 0", "file 0 served", "correct served 0", "withdraw served", "withdraw", "withdraw x",
            "undo", "begin 0", "begin 3", "publish", "publish court", "publish court x", "publish court -1", "publish x 3",
            "publish court 5 closed", "publish court 5 closed ", "publish court 5 ", "publish court 5 close 1..2",
            "publish court 5 closed 1", "publish court 5 closed 1..", "publish court 5 closed ..2", "publish court 5 closed 1.2",
            "publish court 5 closed 1...2", "publish court 5 closed 2..1", "publish court 5 closed 1..2 3..4",
            "publish court 5 closed 3..4 1..1", "publish court 5 closed 1..2  4..5", "publish court 5 closed 1..2 ",
            "publish court 5 closed 01..2", "publish court 5 closed -0..2", "publish court 5 closed 4..6",
            "publish court 5 closed 1..3", "publish court 5 closed 1..2 4..5 closed", "publish served 5", "Advance 5",
            "advance 5\r", "begin", "publish court 10000000",
        ):
            for behind in ("", "advance 5\n", "advance 5", "x\n"):
                self.refused(f"begin 0\n{line}\n{behind}", 2)
                self.refused(f"begin 0\nadvance 0\n{line}\n{behind}", 3)
        self.assertEqual(load(BOOK, "begin 0\npublish court 5 closed 1..2 4..5\n").rules()[0][3], (0, 5, ((1, 2), (4, 5))))

    def test_newline_at_the_end(self):
        lines = TEXT.splitlines(keepends=True)
        self.assertEqual(docket_text(load(BOOK, TEXT)), TEXT)
        for cut in range(len(TEXT)):
            text = TEXT[:cut]
            count = text.count("\n")
            if text.endswith("\n"):
                self.assertEqual(docket_text(load(BOOK, text)), text)
            else:
                self.refused(text, count + 1)
            if count == 0:
                self.refused(text, 1, resume)
            else:
                self.assertEqual(docket_text(resume(BOOK, text)), "".join(lines[:count]))
        self.refused(TEXT + "\n", 8)
        self.assertEqual(docket_text(resume(BOOK, TEXT + "what %$ stands here")), TEXT)
        self.assertEqual(docket_text(resume(BOOK, TEXT + "advance 9")), TEXT)
        self.refused(TEXT + "advance -9\nadvance 9", 8, resume)
        self.refused(TEXT + "advance -9\nadvance 9", 8)
        self.refused(TEXT + "\n\n", 8, resume)
        # The first line that is wrong counts, also before one without a newline.
        self.refused("begin 0\nadvance -1\nadvance 3", 2)
        self.refused("begin 0", 1, resume)

    def test_order_of_lines(self):
        lines = TEXT.splitlines(keepends=True)
        for at in range(1, 6):
            text = "".join([*lines[:at], lines[at + 1], lines[at], *lines[at + 2:]])
            self.assertEqual(docket_text(load(BOOK, text)), text)
        self.refused("".join([lines[0], lines[5], *lines[1:5], lines[6]]), 2)
        self.refused("".join([lines[0], lines[1], lines[4], *lines[2:4]]), 3)
        self.refused("".join(lines[1:]), 1)

    def test_no_calendars(self):
        book = ((("court", 1, "", (0, 1, ((0, 1),))),), ("served",), (RULE,))
        for text in ("begin 0\n", "begin 0\nadvance 3\n"):
            with self.assertRaises(BadForm) as caught:
                load(book, text)
            self.assertEqual(caught.exception.line, 1)
        self.refused("begin 0\npublish court 5 closed 2..4\n", 2)

    def test_two_hundred(self):
        text = "begin 0\n" + "advance 1\n" * 200
        self.assertEqual(docket_text(load(BOOK, text)), text)
        self.refused(text + "advance 1\n", 202)
        self.refused(text + "advance 1\nx\n", 202)
        self.refused(text + "advance 1", 202)

    def test_random(self):
        dice = random.Random(121)
        for _ in range(120):
            book = some_book(dice, dice.randint(0, 3), dice.randint(1, 4), 1)
            docket = some_docket(dice, book, 12)
            if docket is None:
                continue
            text = docket_text(docket)
            told = load(book, text)
            self.assertEqual((state_of(told), docket_text(told)), (state_of(docket), text))
            last = docket.today() + 5
            text = docket_text(played(docket, future_with(docket, YES), last))
            self.assertEqual(load(book, text).today(), last)
