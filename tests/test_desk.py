"""[11.2] and [11.3], and the section diesnon/desk.py of the interface."""

import random
import unittest

from diesnon.allcases import always
from diesnon.books import check_book, check_case_condition
from diesnon.booktexts import book_text
from diesnon.compare import latest_behind, never_called
from diesnon.cores import least_sets
from diesnon.decide import verdict
from diesnon.desk import answer_to, run_script
from diesnon.errors import BadForm, DiesError, Missing, Never, NotAllowed, TooLarge
from diesnon.extremes import greatest, span
from diesnon.families import critical_run, orders
from diesnon.futures import due_span, fixed, standing
from diesnon.image import docket_text
from diesnon.onedesk import Desk
from diesnon.reader import read_condition, read_term
from diesnon.writer import condition_text, question_text, term_text
from tests.cases import case_condition, names_of, some_book
from tests.dockets import do, some_deed, some_docket
from tests.pictures import small_condition, small_rules, small_term
from tests.samples import row

BOOK = ["calendar court run 2", "event served", "event reply",
        "rule answer on served when yes due next court(served + 3) met reply"]
YES_RULE = "rule r on served when yes due served"
WIDE = condition_text(row(201))
DEEP = "x" + " + 1" * 40
ERRORS = ((NotAllowed, "refused"), (BadForm, "form"), (Missing, "missing"), (Never, "never"), (TooLarge, "large"))


def answers(*lines):
    return run_script("\n".join(lines))


def told_by(call):
    """What a call returns, or the word of its error."""
    try:
        return call()
    except DiesError as error:
        return next(word for kind, word in ERRORS if isinstance(error, kind))


class Scripts(unittest.TestCase):
    def test_lines(self):
        self.assertEqual(run_script(""), [""])
        self.assertEqual(run_script("\n"), ["", ""])
        self.assertEqual(run_script("assume x <= y\n\ndecide x <= y\n"), ["0", "", "always", ""])
        self.assertEqual(run_script("decide x <= y"), ["open"])

    def test_limits(self):
        self.assertEqual(run_script("\n" * 59), [""] * 60)
        with self.assertRaises(NotAllowed):
            run_script("\n" * 60)
        for count in (4000, 4001):
            script = "decide yes\n" + "x" * (count - 11)
            if count == 4000:
                self.assertEqual(run_script(script), ["always", "bad"])
            else:
                with self.assertRaises(NotAllowed):
                    run_script(script)

    def check(self, *pairs):
        """Checks the answers to lines, of which there may be more than a script has."""
        desk = Desk()
        for line, answer in pairs:
            self.assertEqual(answer_to(desk, line), answer, line)
        lines = [line for line, _ in pairs]
        if len(lines) <= 60 and sum(map(len, lines)) < 3900:
            self.assertEqual(answers(*lines), [answer for _, answer in pairs])

    def test_rules_and_assumptions(self):
        self.check(
            ("calendar court run 2", "ok"), ("calendar court", "form"), ("calendar", "form"), ("calendar bank  run 2", "form"),
            ("calendar bank within mint", "form"), ("calendar bank within court known 0 to 9 closed 1..2", "ok"),
            ("assume x <= y", "0"), ("assume  x<=y ", "1"), ("assume", "form"), ("assume ", "form"), ("assume filed x", "form"),
            ("assume x <=", "form"), (f"assume {WIDE}", "large"), ("drop 2", "missing"), ("drop 999", "missing"), ("drop 0", "ok"),
            ("drop 1", "missing"), ("assume y <= z", "1"), ("decide x <= z", "always"), ("drop 0", "ok"), ("decide x <= z", "open"),
            ("drop 0", "ok"), ("drop 0", "missing"), ("bad line", "bad"), ("", ""), (" ", "bad"),
        )
        self.check(*[(f"calendar c{k}", "ok") for k in range(6)], ("calendar c6", "form"))
        self.check(*[("assume yes", str(k)) for k in range(30)], ("assume yes", "refused"), ("assume x", "form"),
                   (f"assume {WIDE[:1500]}", "form"), ("drop 29", "ok"), ("assume yes", "29"))

    def test_questions(self):
        self.check(
            ("calendar court run 2", "ok"), ("assume x <= y", "0"), ("assume y <= z", "1"), ("decide x <= z", "always"),
            ("decide z < x", "never"), ("decide x < z", "open"), ("decide", "form"), (f"decide {DEEP} <= x", "large"),
            ("most next court(x+3)|x", "5"), ("most x | z", "0"), ("most z | x", "endless"), ("most z", "bad"), ("most |", "form"),
            ("most x |", "form"), ("most | x", "form"), ("most x | x | x", "form"), (f"most {DEEP} | x", "large"),
            (f"most | {DEEP}", "form"), ("span next court(x + 3) | x", "3 5"), ("span z | x", "0 -"), ("span x | z", "- 0"),
            ("span x | w", "- -"), ("orders x | z", "before same"), ("orders x | w", "before same behind"), ("orders x + 1 | x", "behind"),
            ("run court next court(x) <= x + 4", "5"), ("run court x <= z", "always"), ("run court", "form"), ("run bank", "form"),
            ("run bank yes", "missing"), ("run Bank yes", "bad"), ("need x <= z", "0,1"), ("need yes", "."), ("need x < z", "-"),
            ("assume x <= z", "2"), ("need x <= z", "2 0,1"), ("need", "form"), ("assume z < x", "3"), ("decide x <= z", "none"),
            ("most x | z", "never"), ("span x | z", "never"), ("orders x | z", "-"), ("need z < x", "3"),
        )
        self.check(*[("assume yes", str(k)) for k in range(6)], ("need yes", "."), ("assume yes", "6"), ("need yes", "large"),
                   ("need x", "form"), ("drop 6", "ok"), ("need yes", "."))
        far = "".join([f"next c({'x'} + {k}) <= x and " for k in range(40)]) + "yes"
        self.check((f"decide {far}", "large"), (f"need {far}", "large"), ("calendar c", "ok"), (f"run c {far}", "large"))

    def test_book(self):
        self.check(
            (YES_RULE, "refused"), ("event served", "ok"), ("event served", "refused"), ("event  reply ", "ok"), ("event", "form"),
            ("event 1", "form"), ("event court", "ok"), ("calendar court run 2", "ok"), ("unused", "refused"), ("open 0", "refused"),
            ("always yes", "refused"), ("behind a b", "refused"), ("always", "form"), (f"always {WIDE}", "large"),
            ("rule r on served when yes due next court(served + 3) met reply", "ok"), (YES_RULE, "refused"), ("event r", "refused"),
            ("rule s on x when yes due served", "refused"), ("rule s on s when yes due served", "refused"),
            ("rule s on served when filed x due served", "refused"), ("rule s on served when yes due next bank(served)", "refused"),
            ("rule s on served when yes due served met r", "refused"), ("rule reply on served when yes due served", "refused"),
            ("rule s on served when ?x due served", "form"), ("rule s", "form"), ("rule", "form"),
            (f"rule s on served when {WIDE} due served", "large"), ("rule s on r when called r due day", "refused"),
            ("rule s on r when called r due r + 2", "ok"), ("rule never on s when served < served due served", "ok"),
            ("unused", "never"), ("behind s r", "3"), ("behind r s", "-3"), ("behind r r", "0"), ("behind r x", "missing"),
            ("behind never r", "never"), ("behind x y", "missing"),
            ("always not called r or due r <= served + 5", "yes"), ("always not called r or due r <= served + 4", "no"),
            ("always filed x", "refused"), ("always called served", "refused"), ("always ?served", "refused"), ("always x <=", "form"),
            ("event fourth", "ok"), ("event fifth", "ok"), ("event sixth", "ok"), ("event seventh", "refused"),
        )
        self.check(*[(line, "ok") for line in BOOK], ("rule far on reply when yes due reply", "ok"), ("behind far answer", "endless"),
                   ("unused", "-"))
        self.check(("event a", "ok"), *[(f"rule r{k} on a when yes due a", "ok") for k in range(6)],
                   ("rule r6 on a when yes due a", "refused"))
        self.check(("event a", "ok"), ("rule r1 on a when yes due a", "ok"),
                   *[(f"rule r{k} on r{k - 1} when yes due a", "ok") for k in (2, 3, 4)], ("rule r5 on r4 when yes due a", "refused"),
                   ("always not called r4 or r4 = a + 1", "yes"))
        far = "a" + "".join([f" + {k}" for k in range(1, 39)])
        more = "".join([f" and next c(a + {k}) <= a" for k in range(40)])
        self.check(("event a", "ok"), ("calendar c", "ok"), (f"rule r on a when yes due {far}", "ok"), ("behind r r", "0"),
                   (f"always yes{more}", "large"), ("always", "form"))

    def test_docket(self):
        self.check(
            *[(line, "ok") for line in BOOK],
            *[(line, "missing") for line in ("file served 0", "correct served 0", "withdraw served", "advance 3", "publish court 3",
                                             "publish court 3 closed 1..2", "undo", "stand yes", "due answer", "fixed answer", "text",
                                             "due x", "file x 3", "stand filed x")],
            ("stand", "form"), (f"stand {WIDE}", "large"), ("open 0", "ok"), ("text", "begin 0;"), ("undo", "refused"),
            ("calendar bank", "refused"), ("calendar court", "form"), ("event bond", "refused"), ("event served", "refused"),
            ("event", "form"), (YES_RULE, "refused"), ("rule", "form"), ("assume x <= y", "0"), ("decide x <= y", "always"),
            ("publish court 6 closed 5..6", "ok"), ("publish court 6", "refused"), ("publish bank 9", "missing"),
            ("publish court 9 closed 7..8", "never"), ("publish court 9 closed 8..7", "refused"), ("file served 1", "refused"),
            ("file x 1", "missing"), ("advance 2", "ok"), ("file served 2", "ok"), ("file served 2", "refused"),
            ("stand called answer", "certain"), ("stand missed answer", "open"), ("stand filed served and not filed served", "impossible"),
            ("stand filed x", "refused"), ("stand called x", "refused"), ("stand ?served", "refused"), ("stand x <=", "form"),
            ("due answer", "7 7"), ("fixed answer", "7"), ("due x", "missing"), ("fixed served", "missing"),
            ("correct served 3", "refused"), ("correct reply 1", "refused"), ("correct served 1", "ok"), ("due answer", "4 4"),
            ("text", "begin 0;publish court 6 closed 5..6;advance 2;file served 2;correct served 1;"), ("undo", "ok"),
            ("withdraw served", "ok"), ("due answer", "7 -"), ("fixed answer", "-"), ("withdraw served", "refused"),
            ("advance 1", "refused"), ("open -7", "ok"), ("text", "begin -7;"), ("due answer", "-4 -"),
        )
        self.check(("event a", "ok"), ("rule r on a when a < a due a", "ok"), ("open 0", "ok"), ("due r", "never"), ("fixed r", "-"))
        self.check(("calendar c run 1 known 0 to 1 closed 0..1", "ok"), ("event a", "ok"), ("rule r on a when yes due a", "ok"),
                   ("open 0", "never"), ("text", "missing"), ("unused", "r"), ("always not yes", "yes"))
        self.check(("calendar c", "ok"), ("event a", "ok"), ("rule r on a when yes due prev c(a)", "ok"), ("open 0", "ok"),
                   ("due r", "- -"), ("file a 0", "ok"), ("due r", "- 0"), ("fixed r", "-"))

    def test_failed_open_keeps_the_docket(self):
        self.check(*[(line, "ok") for line in BOOK], ("open 3", "ok"), ("open 1000001", "bad"), ("open 0 0", "bad"), ("text", "begin 3;"))

    def test_questions_by_functions(self):
        dice = random.Random(141)
        words = set()
        for _ in range(60):
            rules = small_rules(dice)
            conditions = tuple(small_condition(dice, 2) for _ in range(dice.randint(0, 3)))
            claim, t, u = small_condition(dice, 3), small_term(dice, 2), small_term(dice, 2)
            lines = question_text((rules, conditions, claim)).splitlines()[:-1]
            pair = f"{term_text(t)}{dice.choice((' | ', '|', '  |'))}{term_text(u)}"
            asked = [f"decide {condition_text(claim)}", f"most {pair}", f"span {pair}", f"orders {pair}",
                     f"run bank {condition_text(claim)}", f"need {condition_text(claim)}"]
            told = answers(*lines, *asked)
            self.assertEqual(told[:len(lines)], ["ok"] * len(rules) + [str(k) for k in range(len(conditions))])
            question = (rules, conditions, claim)
            calls = (
                lambda: verdict(question), lambda: most_text(greatest(rules, conditions, t, u)),
                lambda: ends_text(span(rules, conditions, t, u)), lambda: " ".join(orders(rules, conditions, t, u)) or "-",
                lambda: most_text(critical_run(question, "bank")), lambda: sets_text(least_sets(question)),
            )
            expected = [told_by(call) for call in calls]
            self.assertEqual(told[len(lines):], expected)
            words.update(expected)
        self.assertLessEqual({"always", "never", "open", "none", "endless", "-", ".", "0", "1", "before same behind"}, words)

    def test_books_by_functions(self):
        dice = random.Random(142)
        words = set()
        for _ in range(40):
            book = some_book(dice, dice.randint(0, 2), dice.randint(1, 3), dice.randint(1, 3))
            docket = some_docket(dice, book, 8)
            names = [rule[0] for rule in book[2]]
            name, other, condition = dice.choice(names), dice.choice(names), case_condition(dice, 2, *names_of(book))
            lines = book_text(book).splitlines()
            text = condition_text(condition)
            asked = [f"always {text}", f"behind {name} {other}", "unused"]
            expected = [
                told_by(lambda: "yes" if always(book, (), condition)[0] == "paper" else "no"),
                told_by(lambda: most_text(latest_behind(book, (), name, other))), told_by(lambda: " ".join(never_called(book)) or "-"),
            ]
            if docket is None:
                asked.append("open 0")
                expected.append("never")
            else:
                deeds = docket_text(docket).splitlines()
                asked += ["open" + deeds[0].removeprefix("begin"), *deeds[1:], f"stand {text}", f"due {name}", f"fixed {name}", "text"]
                expected += ["ok"] * len(deeds) + [
                    told_by(lambda: standing(docket, condition)), told_by(lambda: due_text(due_span(docket, name))),
                    told_by(lambda: ends_text([fixed(docket, name)])), docket_text(docket).replace("\n", ";")]
            self.assertEqual(answers(*lines, *asked), ["ok"] * len(lines) + expected)
            words.update(expected)
        self.assertLessEqual({"yes", "no", "endless", "never", "-", "certain", "impossible", "open"}, words)

    def test_wrong_deeds_by_functions(self):
        dice = random.Random(143)
        counts = {}
        for _ in range(40):
            book = some_book(dice, 2, 2, 1)
            docket = some_docket(dice, book, 0)
            if docket is None:
                continue
            lines, expected = [*book_text(book).splitlines(), f"open {docket.begin()}"], []
            for _ in range(12):
                deed = some_deed(dice, docket)
                if dice.random() < 0.1 and deed[0] != "advance":
                    deed = (deed[0], "x", *deed[2:])
                expected.append(told_by(lambda: do(docket, deed)) or "ok")
                counts[expected[-1]] = counts.get(expected[-1], 0) + 1
                words = [f"{part}" for part in deed]
                if deed[0] == "publish":
                    words[3:] = (["closed"] if deed[3] else []) + [f"{first}..{last}" for first, last in deed[3]]
                lines.append(" ".join(words))
            told = answers(*lines, "text")
            self.assertEqual(told[len(lines) - 12:-1], expected)
            self.assertEqual(told[-1], docket_text(docket).replace("\n", ";"))
        self.assertGreater(min(counts[word] for word in ("ok", "refused", "missing", "never")), 5)

    def test_book_none_at_any_time(self):
        # A rule is added just if the book with it is one; so it is one from the first rule on.
        dice = random.Random(144)
        for _ in range(40):
            book = some_book(dice, 1, 3, 4)
            rules = list(book[2])
            dice.shuffle(rules)
            lines = book_text((book[0], book[1], tuple(rules))).splitlines()
            kept, expected = [], ["ok"] * 4
            for rule in rules:
                expected.append(told_by(lambda: check_book((book[0], book[1], (*kept, rule)))) or "ok")
                if expected[-1] == "ok":
                    kept.append(rule)
            self.assertEqual(answers(*lines), expected)
            condition = case_condition(dice, 1, [], book[1], [rule[0] for rule in rules])
            if kept:
                told = answers(*lines, f"always {condition_text(condition)}")[-1]
                self.assertEqual(told == "refused",
                                 bool(told_by(lambda: check_case_condition((book[0], book[1], tuple(kept)), condition))))

    def test_reading_first(self):
        self.assertEqual(read_condition("x <= y"), ("le", read_term("x"), read_term("y")))
        # Both texts are read before anything else is asked, in their order.
        self.check(("run court x", "form"), (f"run court {WIDE}", "large"), (f"most {DEEP} | (", "large"), (f"most ( | {DEEP}", "form"))


def most_text(told):
    return told[0] if told[0] in ("endless", "always") else str(told[1])


def ends_text(ends):
    return " ".join("-" if end is None else str(end) for end in ends)


def due_text(told):
    return told[0] if told[0] == "never" else ends_text(told[1:3])


def sets_text(sets):
    return " ".join(",".join(map(str, chosen)) or "." for chosen in sets) or "-"
