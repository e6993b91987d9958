"""[2.6] to [2.8], [2.11], and the section diesnon/reader.py of the interface."""

import random
import re
import unittest

from diesnon.errors import BadForm, TooLarge
from diesnon.reader import read_case_condition, read_case_term, read_condition, read_question, read_term
from diesnon.terms import WORDS, check_question
from diesnon.writer import condition_text, question_text, term_text
from tests.samples import row, some_condition, some_question, some_term

X, Y = ("day", "x"), ("day", "y")
A, B, C = ("flag", "a"), ("flag", "b"), ("flag", "c")
YES = ("yes",)
TOKENS = re.compile(r"[a-z0-9]+|<=|[-+@(),?\[\]<=]")
ADDED = ("+", "-", "@", "(", ")", ",", "?", "[", "]", "<=", "<", "=", "x", "c", "0", "3", "-3", "9", "07",
         "1000001", "12345678", "due", "called", *WORDS[:11])


class PlainReader:
    """[2.6] told once more, by calls within calls; None stands for what is no text."""

    def __init__(self, tokens, cases):
        self.tokens = [*tokens, ""]
        self.cases = cases

    def whole(self, kind):
        try:
            node = getattr(self, kind)()
        except SyntaxError:
            return None
        return node if self.tokens == [""] else None

    def take(self, *wanted):
        if wanted and self.tokens[0] not in wanted:
            raise SyntaxError
        return self.tokens.pop(0) if len(self.tokens) > 1 else ""

    def name(self):
        name = self.take()
        if not re.fullmatch("[a-z][a-z0-9]{0,19}", name) or name in WORDS:
            raise SyntaxError
        return name

    def number(self, sign, greatest=1000000):
        minus = bool(sign and self.tokens[0] == "-" and self.take())
        digits = self.take()
        if not re.fullmatch("0|[1-9][0-9]{0,6}", digits) or int(digits) > greatest:
            raise SyntaxError
        return -int(digits) if minus else int(digits)

    def term(self):
        term = self.atom()
        while self.tokens[0] in ("+", "-"):
            sign = self.take()
            number = self.number(False)
            term = ("plus", term, number if sign == "+" else -number)
        return term

    def call(self, *kinds):
        parts = []
        for sign, kind in zip("(" + "," * len(kinds), kinds):
            self.take(sign)
            parts.append(getattr(self, kind)())
        self.take(")")
        return tuple(parts)

    def atom(self):
        token = self.tokens[0]
        if token == "(":
            return self.call("term")[0]
        if token == "@":
            self.take()
            return ("at", self.number(True))
        if token in ("next", "prev"):
            return (self.take(), self.name(), *self.call("term"))
        if token == "open":
            self.take()
            name, count = self.name(), self.number(True, 6)
            if count == 0:
                raise SyntaxError
            return ("nth", name, *self.call("term"), count)
        if token in ("later", "earlier"):
            return (self.take(), *self.call("term", "term"))
        if token == "if":
            return (self.take(), *self.call("condition", "term", "term"))
        if token == "due" and self.cases:
            return (self.take(), self.name())
        return ("day", self.name())

    def condition(self):
        condition = self.both()
        while self.tokens[0] == "or":
            condition = (self.take(), condition, self.both())
        return condition

    def both(self):
        condition = self.unit()
        while self.tokens[0] == "and":
            condition = (self.take(), condition, self.unit())
        return condition

    def unit(self):
        token = self.tokens[0]
        if token == "not":
            return (self.take(), self.unit())
        if token == "yes":
            return (self.take(),)
        if token == "?":
            self.take()
            return ("flag", self.name())
        if token == "is":
            return (self.take(), self.name(), *self.call("term"))
        if token == "[":
            self.take()
            condition = self.condition()
            self.take("]")
            return condition
        if token in ("called", "missed", "filed") and self.cases:
            return (self.take(), self.name())
        t, sign, u = self.term(), self.take("<=", "<", "="), self.term()
        if sign == "<":
            return ("le", ("plus", t, 1), u)
        return ("le", t, u) if sign == "<=" else ("and", ("le", t, u), ("le", u, t))


class Case(unittest.TestCase):
    def bad(self, read, text, line=1):
        with self.assertRaises(BadForm, msg=text) as caught:
            read(text)
        self.assertEqual(caught.exception.line, line, text)

    def large(self, read, text):
        with self.assertRaises(TooLarge):
            read(text)


class Terms(Case):
    def test_good(self):
        for text, term in (
            ("x", X), ("  x ", X), ("@5", ("at", 5)), ("@-5", ("at", -5)), ("@ - 5", ("at", -5)), ("@0", ("at", 0)),
            ("@-0", ("at", 0)), ("@1000000", ("at", 1000000)), ("@-1000000", ("at", -1000000)),
            ("x+3", ("plus", X, 3)), ("x - 3", ("plus", X, -3)), ("x+0", ("plus", X, 0)), ("x-0", ("plus", X, 0)),
            ("x - 1 + 2", ("plus", ("plus", X, -1), 2)), ("@-1-2", ("plus", ("at", -1), -2)),
            ("((x)) + 1", ("plus", X, 1)), ("(x + 1) + 2", ("plus", ("plus", X, 1), 2)),
            ("next c(x)", ("next", "c", X)), (" prev  c ( x - 1 ) ", ("prev", "c", ("plus", X, -1))),
            ("open c 3(x)", ("nth", "c", X, 3)), ("open c-3(x)", ("nth", "c", X, -3)),
            ("open c - 6 ( x )", ("nth", "c", X, -6)), ("open c 1(x) - 1", ("plus", ("nth", "c", X, 1), -1)),
            ("later(x,y)", ("later", X, Y)), ("earlier ( x , y )", ("earlier", X, Y)),
            ("if(?a or yes,x,y)", ("if", ("or", A, YES), X, Y)), ("if([x<=y],(x),y)", ("if", ("le", X, Y), X, Y)),
            ("nextc", ("day", "nextc")), ("at", ("day", "at")), ("next next1(x)", ("next", "next1", X)),
            ("x" * 20, ("day", "x" * 20)),
        ):
            self.assertEqual(read_term(text), term)
            self.assertEqual(read_case_term(text), term)

    def test_bad(self):
        for text in (
            "", " ", "x y", "x +", "+ x", "x + -3", "x + 01", "x + 00", "x + y", "x + @3", "3", "@", "@x", "@--3",
            "@+3", "@03", "@-00", "@1000001", "@-1000001", "@9999999", "@10000000", "@12345678", "x + 1000001",
            "x+3a", "@3a", "x" * 21, "3x", "next", "next c", "next c x", "next c()", "next c(x", "next c(x))",
            "next c(x, y)", "next(x)", "next next(x)", "next c(yes)", "nextc(x)", "open c(x)", "open c 0(x)",
            "open c -0(x)", "open c 7(x)", "open c -7(x)", "open c 03(x)", "open c +3(x)", "open 3 c(x)",
            "open c 3 x", "openc 3(x)", "later(x)", "later(x, y, x)", "later(x; y)", "later x, y", "later(x y)",
            "if(x, x, y)", "if(yes, x)", "if(yes x, y)", "if(yes, x, y, x)", "if yes, x, y", "()", "(x", "x)",
            "[x]", "(x]", "x <= y", "yes", "?a", "not x", "x.", "x_1", "X", "x*3", "x > y", "x\n", "\tx", "x\ty",
            "due r", "day x", "x - - 1", "x + + 1", *WORDS,
        ):
            self.bad(read_term, text)

    def test_case_words(self):
        self.assertEqual(read_case_term("due r"), ("due", "r"))
        self.assertEqual(read_case_term("next c( due  r-1)"), ("next", "c", ("plus", ("due", "r"), -1)))
        for text in ("due", "due due", "due (r)", "due 3", "due r s", "called r", "duer s"):
            self.bad(read_case_term, text)
        self.bad(read_term, "next c(due r)")
        self.bad(read_term, "if(called r, x, x)")


class Conditions(Case):
    def test_good(self):
        both = ("and", ("le", X, Y), ("le", Y, X))
        for text, condition in (
            ("yes", YES), ("?a", A), ("? a", A), ("is c(x)", ("is", "c", X)), ("is  c ( x + 1 )", ("is", "c", ("plus", X, 1))),
            ("x<=y", ("le", X, Y)), ("x < y", ("le", ("plus", X, 1), Y)), ("x=y", both),
            ("x + 1 < y - 1", ("le", ("plus", ("plus", X, 1), 1), ("plus", Y, -1))),
            ("(x) <= (y)", ("le", X, Y)), ("not yes", ("not", YES)), ("not not ?a", ("not", ("not", A))),
            ("not x = y", ("not", both)), ("not ?a and ?b", ("and", ("not", A), B)),
            ("not [?a and ?b]", ("not", ("and", A, B))), ("?a and ?b and ?c", ("and", ("and", A, B), C)),
            ("?a or ?b or ?c", ("or", ("or", A, B), C)), ("?a or ?b and ?c", ("or", A, ("and", B, C))),
            ("?a and ?b or ?c", ("or", ("and", A, B), C)), ("?a and [?b or ?c]", ("and", A, ("or", B, C))),
            ("[[?a]] or [yes]", ("or", A, YES)), ("?a or [?b or ?c]", ("or", A, ("or", B, C))),
            ("not[yes]and[not yes]", ("and", ("not", YES), ("not", YES))), ("x = y and yes", ("and", both, YES)),
            ("yes and x = y", ("and", YES, both)), ("notx <= y", ("le", ("day", "notx"), Y)),
        ):
            self.assertEqual(read_condition(text), condition)
            self.assertEqual(read_case_condition(text), condition)

    def test_bad(self):
        for text in (
            "", "x", "x <=", "<= x", "x < = y", "x == y", "x >= y", "x > y", "x <= y <= z", "x <== y", "(x <= y)",
            "[x] <= y", "[x <= y", "x <= y]", "[]", "not", "not x", "?", "?3", "??a", "?yes", "yes yes", "yes and",
            "and yes", "yes or or yes", "is c", "is c x", "is(x)", "is c(yes)", "yes(x)", "yes, yes", "not(yes)",
            "(yes)", "a b <= c", "x + <= y", "called r", "missed r", "filed e", "due r <= x", "x <= y\n", "x <= %",
        ):
            self.bad(read_condition, text)

    def test_case_words(self):
        self.assertEqual(read_case_condition("not called r or missed q and filed e"), (
            "or", ("not", ("called", "r")), ("and", ("missed", "q"), ("filed", "e"))))
        self.assertEqual(read_case_condition("due r = x"), (
            "and", ("le", ("due", "r"), X), ("le", X, ("due", "r"))))
        self.assertEqual(read_case_condition("if(filed e,due r,x) <= x"), (
            "le", ("if", ("filed", "e"), ("due", "r"), X), X))
        for text in ("called", "missed", "filed", "called r r", "called(r)", "due r", "?due", "filed is"):
            self.bad(read_case_condition, text)


class Limits(Case):
    def test_brackets(self):
        for opened, inner, closed, node in (("(", "x", ")", X), ("[", "yes", "]", YES)):
            read = read_term if opened == "(" else read_condition
            self.assertEqual(read(opened * 100 + inner + closed * 100), node)
            self.bad(read, opened * 101 + inner + closed * 101)
            self.bad(read, opened * 5000 + inner + closed * 5000)
            self.bad(read, opened * 100 + inner + closed * 99)
            self.bad(read, opened * 99 + inner + closed * 100)

    def test_nots(self):
        self.large(read_condition, "not " * 100 + "yes")
        self.bad(read_condition, "not " * 101 + "yes")
        self.bad(read_condition, "not " * 99 + "[[yes]]")
        self.large(read_condition, "not " * 99 + "[yes]")

    def test_all_kinds_count(self):
        self.assertEqual(read_condition("not " + "[" * 98 + "(x) <= y" + "]" * 98), ("not", ("le", X, Y)))
        self.bad(read_condition, "not " + "[" * 98 + "((x)) <= y" + "]" * 98)
        self.bad(read_condition, "not " + "[" * 98 + "y <= ((x))" + "]" * 98)
        self.bad(read_condition, "[" * 100 + "is c(x)" + "]" * 100)
        self.bad(read_condition, "[" * 100 + "not yes" + "]" * 100)
        for call in ("next c(x)", "prev c(x)", "open c 1(x)", "later(x, y)", "earlier(x, y)", "if(yes, x, y)"):
            self.assertEqual(read_term("(" * 99 + call + ")" * 99), read_term(call))
            self.bad(read_term, "(" * 100 + call + ")" * 100)

    def test_what_is_over_does_not_count(self):
        many = "[" * 100 + "yes" + "]" * 100
        self.assertEqual(read_condition(f"not yes and {many} and not ?a and {many}"), (
            "and", ("and", ("and", ("not", YES), YES), ("not", A)), YES))
        self.assertEqual(read_condition(f"not [yes] or {many}"), ("or", ("not", YES), YES))
        self.bad(read_condition, f"not {many}")
        self.bad(read_condition, f"[yes and {many}]")
        self.bad(read_condition, f"[yes] and (x) <= y and not not yes and [{many}]")
        deep = "(" * 99 + "x" + ")" * 99
        self.assertEqual(read_term(f"later({deep}, {deep})"), ("later", X, X))
        self.assertEqual(read_condition(f"next c(x) <= ({deep})"), ("le", ("next", "c", X), X))

    def test_sizes(self):
        full = "not [" + " and ".join(["[" + " and ".join(["yes"] * 20) + "]"] * 10) + "]"
        self.assertEqual(read_condition(full), read_condition(condition_text(read_condition(full))))
        self.large(read_condition, "not " + full)
        self.large(read_condition, condition_text(row(201)))

    def test_depths(self):
        self.assertEqual(read_term("x" + " + 1" * 39)[0], "plus")
        self.large(read_term, "x" + " + 1" * 40)
        self.large(read_term, "x" + "+1" * 20000)
        self.large(read_condition, "yes" + " and yes" * 40)
        self.assertEqual(read_condition("x" + "+1" * 37 + " < y")[0], "le")
        self.large(read_condition, "x" + "+1" * 38 + " < y")
        self.assertEqual(read_condition("x" + "+1" * 37 + " = y")[0], "and")
        self.large(read_condition, "x" + "+1" * 38 + " = y")

    def test_relations_double(self):
        text = "x"
        for _ in range(30):
            text = f"later({text}, x)"
        self.assertEqual(read_condition(f"{text} = {text}")[0], "and")
        wide = "later(" * 48 + "x" + ", x)" * 48
        self.large(read_condition, f"{wide} = x")
        self.large(read_condition, "if(" * 99 + "x" + " = x, x, x)" * 99 + " <= x")

    def test_bad_form_before_too_large(self):
        self.bad(read_term, "x" + " + 1" * 500 + " +")
        self.bad(read_condition, "not " * 60 + "yes and x")
        self.bad(read_condition, "yes" + " and yes" * 500 + " _")
        self.bad(read_case_condition, "yes" + " and called r" * 500 + " called")


class Spoilt(Case):
    def check(self, tokens, kind, cases):
        told = PlainReader(tokens, cases).whole(kind)
        reads = {("term", False): read_term, ("condition", False): read_condition,
                 ("term", True): read_case_term, ("condition", True): read_case_condition}
        text = " ".join(tokens)
        if told is None:
            self.bad(reads[kind, cases], text)
        else:
            self.assertEqual(reads[kind, cases](text), told)

    def spoil(self, dice, tokens):
        for at in range(len(tokens)):
            yield tokens[:at] + tokens[at + 1:]
            yield tokens[:at] + [tokens[at]] + tokens[at:]
            yield tokens[:at] + [dice.choice(ADDED)] + tokens[at:]
            yield tokens[:at] + [dice.choice(ADDED)] + tokens[at + 1:]

    def test_one_token(self):
        dice = random.Random(11)
        for _ in range(250):
            cases = dice.random() < 0.4
            for kind, text in (("term", term_text(some_term(dice, 4, cases))),
                               ("condition", condition_text(some_condition(dice, 4, cases)))):
                tokens = TOKENS.findall(text)
                self.check(tokens, kind, cases)
                self.check(tokens, kind, not cases)
                for other in self.spoil(dice, tokens):
                    self.check(TOKENS.findall(" ".join(other)), kind, cases)

    def test_spaces(self):
        dice = random.Random(12)
        for _ in range(200):
            condition = some_condition(dice, 5, True)
            tokens = TOKENS.findall(condition_text(condition))
            wide = "".join(" " * dice.randint(1, 3) + token for token in tokens) + "  "
            self.assertEqual(read_case_condition(wide), condition)
            close = tokens[0]
            for before, token in zip(tokens, tokens[1:]):
                close += " " * (before[-1].isalnum() and token[0].isalnum()) + token
            self.assertEqual(read_case_condition(close), condition)

    def test_brackets_around_parts(self):
        dice = random.Random(13)
        for _ in range(100):
            first, second = some_condition(dice, 3), some_condition(dice, 3)
            texts = [f"[ {condition_text(node)} ]" for node in (first, second)]
            self.assertEqual(read_condition(f"{texts[0]} and not {texts[1]}"), ("and", first, ("not", second)))
            t, u = some_term(dice, 3), some_term(dice, 3)
            self.assertEqual(read_condition(f"(({term_text(t)})) <= ({term_text(u)})"), ("le", t, u))

    def test_signs_of_no_token(self):
        for sign in "!\"#$&'*./:;>ABZ\\^_`{|}~\n\t":
            for text in (sign, f"x{sign}", f"x {sign} + 1", f"{sign}x"):
                self.bad(read_term, text)
                self.bad(read_condition, f"{text} <= y")


class Questions(Case):
    TEXT = ("calendar court run 4\n"
            "calendar bank run 6 within court known 0 to 30 closed 5..6 12..13\n"
            "assume begun <= served\n"
            "claim next court(served + 14) <= next bank(served + 14)\n")

    def lines(self, *lines):
        return "".join(f"{line}\n" for line in lines)

    def test_example(self):
        served = ("plus", ("day", "served"), 14)
        question = ((("court", 4, "", ()), ("bank", 6, "court", (0, 30, ((5, 6), (12, 13))))),
                    (("le", ("day", "begun"), ("day", "served")),),
                    ("le", ("next", "court", served), ("next", "bank", served)))
        self.assertEqual(read_question(self.TEXT), question)
        self.assertEqual(read_question(self.TEXT[:-1]), question)
        self.assertEqual(question_text(question), self.TEXT)

    def test_good_rules(self):
        for line, rule in (
            ("calendar c", ("c", 0, "", ())), ("calendar c run 1", ("c", 1, "", ())),
            ("calendar c run 1000000", ("c", 1000000, "", ())), ("calendar c within court", ("c", 0, "court", ())),
            ("calendar c known 0 to 0", ("c", 0, "", (0, 0, ()))),
            ("calendar c known -0 to 5 closed -0..0", ("c", 0, "", (0, 5, ((0, 0),)))),
            ("calendar c known -1000000 to 1000000 closed -1000000..1000000",
             ("c", 0, "", (-1000000, 1000000, ((-1000000, 1000000),)))),
            ("calendar c run 2 known -9 to 9 closed -5..-4 1..2", ("c", 2, "", (-9, 9, ((-5, -4), (1, 2))))),
        ):
            question = read_question(self.lines("calendar court", line, "claim yes"))
            self.assertEqual(question[0], (("court", 0, "", ()), rule))

    def test_bad_rules(self):
        for line in (
            "", " ", "calendar", "calendar ", " calendar c", "calendar c ", "calendar  c", "calendar C", "calendar run",
            "calendar court", "calendar c run", "calendar c run 0", "calendar c run -0", "calendar c run -1",
            "calendar c run 01", "calendar c run 1000001", "calendar c run 10000000", "calendar c run x",
            "calendar c run  1", "calendar c run 1 ", "calendar c within", "calendar c within ", "calendar c within c",
            "calendar c within other", "calendar c within court run 1", "calendar c within to", "calendar c known",
            "calendar c known 0", "calendar c known 0 to", "calendar c known 0 to ", "calendar c known 0..5",
            "calendar c known 5 to 3", "calendar c known 00 to 3", "calendar c known - 1 to 3",
            "calendar c known 0 to 1000001", "calendar c known -1000001 to 0", "calendar c known 0 to 5 closed",
            "calendar c known 0 to 5 closed ", "calendar c known 0 to 5 closed 1", "calendar c known 0 to 5 closed 2..1",
            "calendar c known 0 to 5 closed 1..6", "calendar c known 0 to 5 closed -1..2",
            "calendar c known 0 to 5 closed 1..2 3..4", "calendar c known 0 to 5 closed 4..5 1..2",
            "calendar c known 0 to 5 closed 1...2", "calendar c known 0 to 5 closed 1 ..2",
            "calendar c known 0 to 5 closed 1..2  4..5", "calendar c known 0 to 5 closed 1..2 ",
            "calendar c known 0 to 5 closed 01..2", "calendar c known 0 to 5 closed 1..2..3", "calendar c closed 1..2",
            "calendar c known 0 to 5 run 1", "calendar c c", "calender c", "rule c", "event c", "Calendar c",
            "calendar c run 1 run 1", "calendar c\t", "calendar c run 1.", "run 1", "c",
        ):
            self.bad(read_question, self.lines("calendar court", line, "claim yes"), 2)
            self.bad(read_question, self.lines("calendar court", line, "claim x", "claim"), 2)

    def test_conditions(self):
        question = read_question("assume   not  ?a \nassume x=y\nclaim  yes")
        self.assertEqual(question, ((), (("not", A), ("and", ("le", X, Y), ("le", Y, X))), YES))
        for word in ("assume", "claim"):
            for line in (word, f"{word} ", f"{word}[yes]", f" {word} yes", f"{word}s yes", f"{word} x", f"{word} yes yes",
                         f"{word} called r", f"{word}\tyes", f"{word} {word} yes"):
                self.bad(read_question, self.lines("assume yes", line, "claim yes"), 2)
                self.bad(read_question, self.lines(line, "claim yes"), 1)

    def test_order(self):
        self.bad(read_question, self.lines("assume yes", "calendar c", "claim yes"), 2)
        self.bad(read_question, self.lines("claim yes", "claim yes"), 2)
        self.bad(read_question, self.lines("claim yes", "assume yes"), 2)
        self.bad(read_question, self.lines("claim yes", "calendar c"), 2)
        self.bad(read_question, self.lines("claim yes", ""), 2)
        self.bad(read_question, self.lines("claim yes", "", ""), 2)
        self.bad(read_question, self.lines("calendar a within b", "calendar b", "claim yes"), 1)

    def test_no_claim(self):
        self.bad(read_question, "", 1)
        self.bad(read_question, "\n", 1)
        self.bad(read_question, "calendar c", 2)
        self.bad(read_question, "calendar c\n", 2)
        self.bad(read_question, "calendar c\nassume yes\n", 3)
        self.bad(read_question, "calendar c\n\n", 2)

    def test_first_bad_line(self):
        self.bad(read_question, self.lines("calendar c", "assume x", "calendar", "claim"), 2)
        self.bad(read_question, self.lines("assume yes", "assume yes", "claim yes or"), 3)

    def test_numbers_of_lines(self):
        rules = [f"calendar c{k}" for k in range(7)]
        assumptions = ["assume yes"] * 31
        question = read_question(self.lines(*rules[:6], *assumptions[:30], "claim yes"))
        self.assertEqual((len(question[0]), len(question[1])), (6, 30))
        self.bad(read_question, self.lines(*rules, "claim yes"), 7)
        self.bad(read_question, self.lines(*assumptions, "claim yes"), 31)
        self.bad(read_question, self.lines(*assumptions[:30], "assume not " * 60 + "yes", "claim yes"), 31)

    def test_too_large(self):
        large = condition_text(row(201))
        for text in (f"assume {large}\nclaim x\n", f"claim {large}\n", f"claim {large}\nclaim yes\n",
                     f"assume yes\nassume {large}\n", "claim x" + " + 1" * 40 + " <= x"):
            self.large(read_question, text)
        self.bad(read_question, f"assume x\nclaim {large}\n", 1)
        self.bad(read_question, f"claim yes\nclaim {large}\n", 2)
        self.bad(read_question, f"claim {large} x\n", 1)

    def test_spoilt_lines(self):
        dice = random.Random(14)
        for _ in range(60):
            question = some_question(dice, 3)
            lines = question_text(question).split("\n")[:-1]
            rules = len(question[0])
            for at in range(len(lines)):
                without = lines[:at] + lines[at + 1:]
                doubled = lines[:at + 1] + lines[at:]
                if at == len(lines) - 1:
                    self.bad(read_question, self.lines(*without), len(lines))
                    self.bad(read_question, self.lines(*doubled), len(lines) + 1)
                elif at < rules:
                    self.bad(read_question, self.lines(*doubled), at + 2)
                else:
                    self.assertEqual(read_question(self.lines(*doubled))[2], question[2])
                    self.assertEqual(len(read_question(self.lines(*without))[1]), len(question[1]) - 1)
                self.bad(read_question, self.lines(*lines[:at], " " + lines[at], *lines[at + 1:]), at + 1)
                self.bad(read_question, self.lines(*lines[:at], "", *lines[at:]), at + 1)

    def test_what_is_read_is_a_question(self):
        dice = random.Random(15)
        words = ("c", "court", "run", "3", "0", "-2", "within", "known", "to", "closed", "1..2", "0..0", "9")
        pieces = (" run 3", " run 0", " within court", " within c", " known -2 to 9", " known 9 to 0", " closed",
                  " 1..2", " -2..-2", " 4..9", " 3..9", " 5..10")
        good = 0
        for _ in range(5000):
            line = "calendar c" + "".join([piece for piece in pieces if dice.random() < 0.3])
            if dice.random() < 0.3:
                line += " " + dice.choice(words)
            try:
                question = read_question(self.lines("calendar court", line, "claim yes"))
            except BadForm as error:
                self.assertEqual(error.line, 2)
                continue
            good += 1
            check_question(question)
            self.assertEqual(question_text(question), self.lines("calendar court", line, "claim yes"))
        self.assertGreater(good, 100)
