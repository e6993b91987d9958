"""The interface: each name is defined in its module, with its arguments."""

import importlib
import inspect
import unittest

FUNCTIONS = {
    "stretches": {
        "is_closed_days": ["pairs"], "closed_days": ["pairs"], "is_open": ["closed", "day"],
        "next_open": ["closed", "day"], "prev_open": ["closed", "day"], "nth_open": ["closed", "day", "n"],
        "count_open": ["closed", "first", "behind"], "stretch_at": ["closed", "day"],
        "shut": ["closed", "first", "last"], "free": ["closed", "first", "last"],
        "cut": ["closed", "first", "last"], "longest": ["closed"], "both": ["first_closed", "second_closed"],
        "either": ["first_closed", "second_closed"], "inside": ["first_closed", "second_closed"],
    },
    "worlds": {
        "make_world": ["calendars", "days", "flags"], "is_world": ["world"], "calendar_of": ["world", "name"],
        "day_of": ["world", "name"], "flag_of": ["world", "name"],
        "set_calendar": ["world", "name", "closed"], "set_day": ["world", "name", "day"],
        "set_flag": ["world", "name", "flag"], "keeps_rule": ["world", "rule"], "keeps_rules": ["world", "rules"],
    },
    "terms": {
        "is_name": ["text"], "check_term": ["term"], "check_condition": ["condition"],
        "check_question": ["question"], "size_of": ["node"], "depth_of": ["node"], "names_of": ["node"],
        "with_days": ["node", "table"],
    },
    "writer": {"term_text": ["term"], "condition_text": ["condition"], "question_text": ["question"]},
    "reader": {
        "read_term": ["text"], "read_condition": ["text"], "read_case_term": ["text"],
        "read_case_condition": ["text"], "read_question": ["text"],
    },
    "meaning": {
        "value": ["world", "term"], "holds": ["world", "condition"], "keeps": ["world", "question"],
        "answers": ["world", "question"],
    },
    "rings": {
        "check_points": ["n"], "check_literals": ["n", "literals"], "satisfies": ["values", "literals"],
        "is_ring": ["ring"], "find_ring": ["n", "literals"],
    },
    "points": {
        "all_points": ["rules", "conditions", "terms"], "points": ["question"], "point_of": ["made", "term"],
        "literal_for": ["made", "condition"], "values_of": ["made", "world"],
    },
    "literals": {
        "denial": ["literal"], "literal_holds": ["literal", "values"], "clause_holds": ["clause", "values"],
        "all_hold": ["rows", "values"],
    },
    "clauses": {"all_clauses": ["rules", "conditions", "terms"], "clauses": ["question"]},
    "papers": {
        "check_clauses": ["n", "clauses"], "check_paper": ["n", "clauses", "paper"], "depth_of": ["paper"],
        "weight": ["paper"], "rings_of": ["paper"], "used_clauses": ["n", "clauses", "paper"],
        "trimmed": ["n", "clauses", "paper"],
    },
    "search": {"solves": ["n", "clauses", "values"], "solve": ["n", "clauses"]},
    "realize": {"world_of_values": ["rules", "made", "values"], "realize": ["question", "values"]},
    "decide": {
        "decide": ["question"], "check": ["question", "paper"], "keeping": ["question"], "verdict": ["question"],
        "decide_all": ["rules", "assumptions", "claims"], "mirror": ["question"],
    },
    "extremes": {
        "greatest": ["rules", "assumptions", "t", "u"], "least": ["rules", "assumptions", "t", "u"],
        "span": ["rules", "assumptions", "t", "u"],
        "check_most": ["rules", "assumptions", "t", "u", "v", "paper"], "table": ["rules", "assumptions", "terms"],
    },
    "families": {
        "farther": ["rules", "assumptions", "t", "u", "n"], "orders": ["rules", "assumptions", "t", "u"],
        "tolerance": ["rules", "assumptions", "k", "claim"], "with_run": ["question", "name", "run"],
        "critical_run": ["question", "name"],
    },
    "cores": {
        "suffices": ["question", "chosen"], "least_sets": ["question"], "breaking_sets": ["question"],
        "meeting_sets": ["sets"],
    },
}
CONSTANTS = {
    "terms": {
        "MAX_NODES": 400, "MAX_DEPTH": 40, "MAX_NUMBER": 1000000, "MAX_COUNT": 6, "MAX_RULES": 6, "MAX_ASSUMPTIONS": 30,
    },
    "rings": {"MAX_POINTS": 80},
    "points": {"MAX_POINTS": 80},
    "papers": {"MAX_CLAUSES": 8000, "MAX_DEPTH": 8000},
    "cores": {"MAX_CHOICES": 6},
}
CLASSES = {
    "errors": {
        "DiesError": {}, "NotAllowed": {}, "TooLarge": {}, "Never": {}, "BadForm": {"__init__": ["self", "line"]},
        "Missing": {"__init__": ["self", "name"]},
    },
    "bounds": {
        "Bounds": {
            "__init__": ["self", "n"], "size": ["self"], "add": ["self", "a", "b", "c"], "literals": ["self"],
            "bound": ["self", "a", "b"], "any_values": ["self"], "values_at": ["self", "a", "b"],
            "values_beyond": ["self", "a", "b", "least"], "copy": ["self"],
        },
    },
}


def arguments(function):
    return list(inspect.signature(function).parameters)


class Interface(unittest.TestCase):
    def test_functions(self):
        for module, functions in FUNCTIONS.items():
            home = importlib.import_module(f"diesnon.{module}")
            for name, told in functions.items():
                function = getattr(home, name)
                self.assertEqual(function.__module__, f"diesnon.{module}")
                self.assertEqual(arguments(function), told)

    def test_classes(self):
        for module, classes in CLASSES.items():
            home = importlib.import_module(f"diesnon.{module}")
            for name, methods in classes.items():
                kind = getattr(home, name)
                self.assertEqual(kind.__module__, f"diesnon.{module}")
                for method, told in methods.items():
                    self.assertEqual(arguments(vars(kind)[method]), told)

    def test_constants(self):
        for module, constants in CONSTANTS.items():
            home = importlib.import_module(f"diesnon.{module}")
            for name, told in constants.items():
                self.assertEqual(getattr(home, name), told)
