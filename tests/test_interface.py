"""Tests of the interface: each name is defined in its own file, with the arguments that are listed."""

import ast
import unittest
from pathlib import Path

FOLDER = Path(__file__).resolve().parent.parent / "sureplans"

FUNCTIONS = {
    "houses": {
        "house_of": ["facts", "deeds", "looks", "firsts", "wish"],
        "holds_in": ["house", "condition", "world"],
        "worlds_where": ["house", "condition"],
    },
    "doing": {
        "worlds_behind": ["house", "deed", "world"],
        "crowd_behind": ["house", "deed", "crowd"],
        "doable_in": ["house", "crowd"],
    },
    "rows": {
        "row_goes": ["house", "crowd", "row"],
        "may_run": ["house", "world", "row"],
        "known_in": ["house", "crowd"],
    },
    "sure": {
        "sure_row": ["house"],
        "how_many_rows": ["house"],
        "least_deeds": ["house", "crowds"],
    },
    "never": {
        "never_shows": ["house", "paper"],
        "less_paper": ["house", "paper"],
        "is_hopeless": ["house", "paper", "crowd"],
    },
    "apart": {
        "parting_row": ["house", "one", "other"],
        "good_worlds": ["house", "row"],
    },
    "looking": {
        "sides_of": ["house", "look", "crowd"],
        "looks_in": ["house", "crowd"],
    },
    "trees": {
        "tree_parts": ["tree"],
        "tree_depth": ["tree"],
        "tree_goes": ["house", "crowd", "tree"],
        "tree_of_row": ["row"],
        "rows_of_tree": ["tree"],
    },
    "treesure": {
        "sure_tree": ["house"],
        "least_depths": ["house", "crowds"],
        "never_with_looks": ["house", "paper"],
    },
    "spare": {
        "row_made_less": ["house", "crowd", "row"],
        "tree_made_less": ["house", "crowd", "tree"],
        "bare_tree": ["house", "crowd", "tree"],
    },
    "together": {
        "side_by_side": ["one", "other"],
        "paper_for_both": ["one", "other", "paper"],
        "row_for_both": ["one", "other", "row", "other_row"],
        "house_kept_to": ["house", "facts"],
    },
    "texts": {
        "show_house": ["house"],
        "show_row": ["row"],
        "show_tree": ["tree"],
        "show_condition": ["condition"],
        "read_house": ["text"],
        "read_row": ["text"],
        "read_tree": ["text"],
        "read_condition": ["text"],
    },
}
CLASSES = {
    "errors": ["PlanError", "NoHouse", "NoDeed", "NoWorld", "NoNeed", "NoPaper", "TooMany", "NoLook",
               "NoPlan", "NoText", "NoForm", "NoneYet"],
    "desk": ["Desk"],
}
# The methods that are listed, each in the body of the class itself.
METHODS = {("desk", "Desk"): {"__init__": ["self"], "say": ["self", "row"]}}


def rows_of(name):
    return ast.parse((FOLDER / f"{name}.py").read_text()).body


class TestInterface(unittest.TestCase):

    def test_functions(self):
        for name, listed in FUNCTIONS.items():
            defined = {row.name: [each.arg for each in row.args.args]
                       for row in rows_of(name) if isinstance(row, ast.FunctionDef)}
            for function, arguments in listed.items():
                with self.subTest(name, function=function):
                    self.assertEqual(defined.get(function), arguments)

    def test_classes(self):
        for name, listed in CLASSES.items():
            defined = [row.name for row in rows_of(name) if isinstance(row, ast.ClassDef)]
            self.assertEqual(sorted(defined), sorted(listed))

    def test_methods(self):
        for (name, listed), methods in METHODS.items():
            body = next(row.body for row in rows_of(name) if isinstance(row, ast.ClassDef) and row.name == listed)
            defined = {row.name: [each.arg for each in row.args.args] for row in body if isinstance(row, ast.FunctionDef)}
            self.assertEqual(defined, methods)


if __name__ == "__main__":
    unittest.main()
