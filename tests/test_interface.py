"""The interface: each name is defined in its module, with its arguments."""

import importlib
import inspect
import unittest

FUNCTIONS = {
    "stretches": {
        "is_closed_days": ["pairs"], "closed_days": ["pairs"], "is_open": ["closed", "day"],
        "next_open": ["closed", "day"], "prev_open": ["closed", "day"], "nth_open": ["closed", "day", "n"],
        "count_open": ["closed", "first", "behind"], "stretch_at": ["closed", "day"],
        "shut": ["closed", "first", "last"], "free": ["closed", "first", "last"],
        "cut": ["closed", "first", "last"], "longest": ["closed"], "both": ["first_closed", "second_closed"],
        "either": ["first_closed", "second_closed"], "inside": ["first_closed", "second_closed"],
    },
    "worlds": {
        "make_world": ["calendars", "days", "flags"], "is_world": ["world"], "calendar_of": ["world", "name"],
        "day_of": ["world", "name"], "flag_of": ["world", "name"],
        "set_calendar": ["world", "name", "closed"], "set_day": ["world", "name", "day"],
        "set_flag": ["world", "name", "flag"], "keeps_rule": ["world", "rule"], "keeps_rules": ["world", "rules"],
    },
    "terms": {
        "is_name": ["text"], "check_term": ["term"], "check_condition": ["condition"],
        "check_question": ["question"], "size_of": ["node"], "depth_of": ["node"], "names_of": ["node"],
        "with_days": ["node", "table"],
    },
    "writer": {"term_text": ["term"], "condition_text": ["condition"], "question_text": ["question"]},
    "reader": {
        "read_term": ["text"], "read_condition": ["text"], "read_case_term": ["text"],
        "read_case_condition": ["text"], "read_question": ["text"],
    },
    "meaning": {
        "value": ["world", "term"], "holds": ["world", "condition"], "keeps": ["world", "question"],
        "answers": ["world", "question"],
    },
    "rings": {
        "check_points": ["n"], "check_literals": ["n", "literals"], "satisfies": ["values", "literals"],
        "is_ring": ["ring"], "find_ring": ["n", "literals"],
    },
    "points": {
        "all_points": ["rules", "conditions", "terms"], "points": ["question"], "point_of": ["made", "term"],
        "literal_for": ["made", "condition"], "values_of": ["made", "world"],
    },
    "literals": {
        "denial": ["literal"], "literal_holds": ["literal", "values"], "clause_holds": ["clause", "values"],
        "all_hold": ["rows", "values"],
    },
    "clauses": {"all_clauses": ["rules", "conditions", "terms"], "clauses": ["question"]},
    "papers": {
        "check_clauses": ["n", "clauses"], "check_paper": ["n", "clauses", "paper"], "depth_of": ["paper"],
        "weight": ["paper"], "rings_of": ["paper"], "used_clauses": ["n", "clauses", "paper"],
        "trimmed": ["n", "clauses", "paper"],
    },
    "search": {"solves": ["n", "clauses", "values"], "solve": ["n", "clauses"]},
    "realize": {"world_of_values": ["rules", "made", "values"], "realize": ["question", "values"]},
    "decide": {
        "decide": ["question"], "check": ["question", "paper"], "keeping": ["question"], "verdict": ["question"],
        "decide_all": ["rules", "assumptions", "claims"], "mirror": ["question"],
    },
    "extremes": {
        "greatest": ["rules", "assumptions", "t", "u"], "least": ["rules", "assumptions", "t", "u"],
        "span": ["rules", "assumptions", "t", "u"],
        "check_most": ["rules", "assumptions", "t", "u", "v", "paper"], "table": ["rules", "assumptions", "terms"],
    },
    "families": {
        "farther": ["rules", "assumptions", "t", "u", "n"], "orders": ["rules", "assumptions", "t", "u"],
        "tolerance": ["rules", "assumptions", "k", "claim"], "with_run": ["question", "name", "run"],
        "critical_run": ["question", "name"],
    },
    "cores": {
        "suffices": ["question", "chosen"], "least_sets": ["question"], "breaking_sets": ["question"],
        "meeting_sets": ["sets"],
    },
    "reasons": {
        "agrees": ["world", "fact"], "condition_of": ["fact"], "looks": ["world", "term"],
        "explains": ["rules", "world", "term", "facts"], "reason": ["rules", "world", "term"],
        "all_reasons": ["rules", "world", "term"], "parted": ["rules", "world", "term", "facts"],
    },
    "books": {
        "check_case_term": ["book", "term"], "check_case_condition": ["book", "condition"], "check_book": ["book"],
        "check_history": ["book", "history"], "outcomes": ["book", "history"],
        "case_value": ["book", "history", "term"], "case_holds": ["book", "history", "condition"],
    },
    "allcases": {
        "world_of": ["book", "history"], "history_of": ["book", "world"], "plain_condition": ["book", "condition"],
        "presence": ["book", "term"], "plain_term": ["book", "term"],
        "question_of": ["book", "assumptions", "claim"], "always": ["book", "assumptions", "claim"],
    },
    "compare": {
        "alike": ["book", "other"], "likeness": ["book", "other", "name"], "never_called": ["book"],
        "latest_behind": ["book", "assumptions", "name", "other"],
    },
    "futures": {
        "open_book": ["docket"], "known_conditions": ["docket"], "is_future": ["docket", "history"],
        "standing": ["docket", "condition"], "future_with": ["docket", "condition"],
        "proof_of": ["docket", "condition"], "check_proof": ["docket", "condition", "paper"],
        "due_span": ["docket", "name"], "status": ["docket", "name"], "fixed": ["docket", "name"],
        "played": ["docket", "history", "last"],
    },
    "image": {"docket_text": ["docket"], "load": ["book", "text"], "resume": ["book", "text"]},
    "booktexts": {"book_text": ["book"], "read_book": ["text"]},
    "lines": {"read_command": ["line"]},
    "desk": {"run_script": ["script"]},
}
CONSTANTS = {
    "terms": {
        "MAX_NODES": 400, "MAX_DEPTH": 40, "MAX_NUMBER": 1000000, "MAX_COUNT": 6, "MAX_RULES": 6, "MAX_ASSUMPTIONS": 30,
    },
    "rings": {"MAX_POINTS": 80},
    "points": {"MAX_POINTS": 80},
    "papers": {"MAX_CLAUSES": 8000, "MAX_DEPTH": 8000},
    "cores": {"MAX_CHOICES": 6},
    "reasons": {"MAX_FACTS": 40, "MAX_CHOSEN": 6},
    "books": {"MAX_EVENTS": 6, "MAX_RULES": 6, "MAX_LEVEL": 4},
    "docket": {"MAX_DAY": 1000000, "MAX_DEEDS": 200},
}
CLASSES = {
    "errors": {
        "DiesError": {}, "NotAllowed": {}, "TooLarge": {}, "Never": {}, "BadForm": {"__init__": ["self", "line"]},
        "Missing": {"__init__": ["self", "name"]},
    },
    "bounds": {
        "Bounds": {
            "__init__": ["self", "n"], "size": ["self"], "add": ["self", "a", "b", "c"], "literals": ["self"],
            "bound": ["self", "a", "b"], "any_values": ["self"], "values_at": ["self", "a", "b"],
            "values_beyond": ["self", "a", "b", "least"], "copy": ["self"],
        },
    },
    "docket": {
        "Docket": {
            "__init__": ["self", "book", "begin"], "book": ["self"], "begin": ["self"], "today": ["self"],
            "filings": ["self"], "rules": ["self"], "deeds": ["self"], "file": ["self", "event", "day"],
            "correct": ["self", "event", "day"], "withdraw": ["self", "event"],
            "publish": ["self", "calendar", "last", "closed"], "advance": ["self", "day"], "undo": ["self"],
            "copy": ["self"],
        },
    },
}


def arguments(function):
    return list(inspect.signature(function).parameters)


class Interface(unittest.TestCase):
    def test_functions(self):
        for module, functions in FUNCTIONS.items():
            home = importlib.import_module(f"diesnon.{module}")
            for name, told in functions.items():
                function = getattr(home, name)
                self.assertEqual(function.__module__, f"diesnon.{module}")
                self.assertEqual(arguments(function), told)

    def test_classes(self):
        for module, classes in CLASSES.items():
            home = importlib.import_module(f"diesnon.{module}")
            for name, methods in classes.items():
                kind = getattr(home, name)
                self.assertEqual(kind.__module__, f"diesnon.{module}")
                for method, told in methods.items():
                    self.assertEqual(arguments(vars(kind)[method]), told)

    def test_constants(self):
        for module, constants in CONSTANTS.items():
            home = importlib.import_module(f"diesnon.{module}")
            for name, told in constants.items():
                self.assertEqual(getattr(home, name), told)
