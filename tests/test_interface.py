"""Point 8: each name stands in its file, with its arguments; and the examples of the interface."""

import doctest
import importlib
import inspect
import pathlib
import unittest

FUNCTIONS = {
    "problems": {
        "is_constraint": ["items", "value"], "is_ranking": ["items", "value"], "is_problem": ["value"],
        "places": ["problem", "ranking"], "violated": ["problem", "ranking"], "satisfies": ["problem", "ranking"],
        "with_constraint": ["problem", "constraint"],
    },
    "formed": {
        "tidied": ["problem"], "mirrored": ["problem"], "renamed": ["problem", "order"], "part": ["problem", "indexes"],
    },
    "windows": {
        "window": ["problem", "item"], "lower": ["problem", "item"], "upper": ["problem", "item"],
        "accepts_low": ["problem", "item", "low", "value"], "accepts_high": ["problem", "item", "high", "value"],
    },
    "cycles": {"told_cycle": ["problem"], "accepts_cycle": ["problem", "value"]},
    "contradictions": {
        "due": ["problem", "low", "high"], "tight": ["problem"], "contradiction": ["problem"],
        "accepts_contradiction": ["problem", "value"],
    },
    "rankings": {
        "by_deadlines": ["problem"], "first_ranking": ["problem"], "last_ranking": ["problem"],
        "can_follow": ["problem", "beginning"], "range_of": ["problem", "item"], "rankings_evidence": ["problem"],
        "accepts_rankings": ["problem", "value"],
    },
    "verdicts": {
        "verdict": ["problem", "constraint"], "verdict_evidence": ["problem", "constraint"],
        "accepts_verdict": ["problem", "constraint", "value"], "negation": ["problem", "constraint"],
    },
    "certain": {"places": ["problem", "item"], "certainly_ahead": ["problem"], "certain_order": ["problem"]},
    "counting": {
        "count_rankings": ["problem"], "count_beginning": ["problem", "beginning"], "nth_ranking": ["problem", "index"],
        "index_of_ranking": ["problem", "ranking"], "next_ranking": ["problem", "ranking"],
    },
    "shares": {"place_counts": ["problem", "item"], "count_ahead": ["problem", "one", "other"]},
    "exchanges": {
        "exchanged": ["problem", "ranking", "one", "other"], "distance": ["problem", "first", "second"],
        "told_path": ["problem", "first", "second"], "accepts_path": ["problem", "first", "second", "value"],
        "exchanges_in": ["problem", "ranking"],
    },
    "pairs": {
        "merged": ["problem", "one", "other"], "exchangeable": ["problem"], "components": ["problem"],
        "pair_evidence": ["problem", "one", "other"], "accepts_pair": ["problem", "one", "other", "value"],
    },
    "observing": {
        "tells_all": ["problem", "seen"], "tells_item": ["problem", "seen", "item"], "smallest": ["problem"],
        "seen_evidence": ["problem", "seen"], "accepts_seen": ["problem", "seen", "value"],
        "smallest_evidence": ["problem", "seen"], "accepts_smallest": ["problem", "seen", "value"],
    },
    "conflicts": {
        "conflicts": ["problem"], "told_conflict": ["problem"], "conflict_evidence": ["problem", "indexes"],
        "accepts_conflict": ["problem", "indexes", "value"],
    },
    "corrections": {
        "corrections": ["problem"], "least_correction": ["problem"], "blameless": ["problem"],
        "correction_evidence": ["problem", "indexes"], "accepts_correction": ["problem", "indexes", "value"],
    },
    "naming": {"are_names": ["value"]},
    "scanning": {"scan": ["text"]},
    "reading": {
        "next_tokens": ["text", "kind"], "read_problem": ["names", "text"], "read_ranking": ["names", "text"],
    },
    "writing": {"problem_text": ["names", "problem"], "ranking_text": ["names", "ranking"]},
    "journals": {"replayed": ["items", "journal"], "are_right": ["items", "records"]},
}

METHODS = {
    "__init__": ["self", "items"], "act": ["self", "command"], "undo": ["self"], "entries": ["self"],
    "problem": ["self"], "journal": ["self"], "watches": ["self"], "outcome": ["self", "watch"], "records": ["self"],
    "twin": ["self"],
}

ERRORS = {
    "RankError": None, "BadValue": ["name"], "TooLarge": ["what"], "NotPossible": ["why"],
    "TextError": ["column", "words"],
}


def load_tests(loader, tests, pattern):
    """Add the examples of the interface and of the README to the tests of this file."""
    tests.addTests(doctest.DocFileSuite("interface.txt", "../README.md"))
    return tests


class Names(unittest.TestCase):
    def test_point_8_functions_stand_in_their_files(self):
        for file, functions in FUNCTIONS.items():
            module = importlib.import_module(f"rankswithin.{file}")
            for name, arguments in functions.items():
                function = getattr(module, name)
                self.assertTrue(inspect.isfunction(function), name)
                self.assertEqual(function.__module__, module.__name__)
                self.assertEqual(list(inspect.signature(function).parameters), arguments)

    def test_point_8_errors_stand_in_their_file(self):
        module = importlib.import_module("rankswithin.errors")
        for name, arguments in ERRORS.items():
            error = getattr(module, name)
            self.assertTrue(inspect.isclass(error), name)
            self.assertEqual(error.__module__, "rankswithin.errors")
            if arguments is not None:
                self.assertEqual(list(inspect.signature(error).parameters), arguments)

    def test_point_8_the_class_and_its_methods_stand_in_their_file(self):
        module = importlib.import_module("rankswithin.notebook")
        self.assertTrue(inspect.isclass(module.Notebook))
        self.assertEqual(module.Notebook.__module__, "rankswithin.notebook")
        self.assertEqual(list(inspect.signature(module.Notebook).parameters), ["items"])
        for name, arguments in METHODS.items():
            # In the class itself, not only in a base class.
            self.assertIn(name, vars(module.Notebook))
            self.assertEqual(list(inspect.signature(vars(module.Notebook)[name]).parameters), arguments)

    def test_point_8_the_package_has_no_other_files_with_promises(self):
        package = importlib.import_module("rankswithin")
        folder = pathlib.Path(package.__file__).parent
        files = {path.stem for path in folder.glob("*.py")}
        self.assertEqual(files, set(FUNCTIONS) | {"errors", "notebook", "checking", "__init__"})


if __name__ == "__main__":
    unittest.main()
