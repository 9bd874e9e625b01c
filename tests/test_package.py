"""The interface stands where the document lists it; the package keeps its form."""

import ast
import importlib
import os
import unittest

TOP = os.path.dirname(os.path.dirname(os.path.abspath(__file__)))
PACKAGE = os.path.join(TOP, "handpiles")

FUNCTIONS = {
    "hands": {
        "plain_way": ["row", "hand"],
        "piles_of": ["row", "hand"],
        "fronts": ["row", "hand"],
        "hands_met": ["row", "hand"],
        "card_keys": ["row", "hand"],
        "number_of_piles": ["row", "hand"],
        "least_hand": ["row", "most"],
        "sizes": ["row"],
    },
    "ways": {
        "first_fault": ["row", "hand", "told"],
        "is_beginning": ["row", "hand", "told"],
        "fronts_of": ["row", "hand", "told"],
        "first_behind": ["row", "hand", "told"],
        "going_on": ["row", "hand", "told"],
        "count_ways": ["row", "hand"],
    },
    "leads": {
        "keys_of": ["row", "hand", "told"],
        "is_ahead": ["row", "hand", "one", "other"],
        "piles_from": ["row", "hand", "told"],
        "late_cards": ["row", "hand", "told"],
    },
    "papers": {
        "paper": ["row", "hand"],
        "first_gap": ["row", "hand", "told"],
        "shown": ["row", "hand", "told"],
    },
    "tables": {
        "values_of": ["row"],
        "laid_table": ["row", "hand"],
        "first_breach": ["row", "hand", "told"],
        "most_shown": ["row", "hand", "told"],
    },
    "passes": {
        "pass_once": ["row", "hand"],
        "at_rest": ["row", "hand"],
        "greatest_rest": ["row"],
        "chained": ["row", "hands"],
        "needed": ["hands"],
        "one_instead": ["hands"],
    },
    "changes": {
        "piles_by": ["row", "sizes"],
        "drawn_by": ["row", "sizes"],
        "latest_change": ["row", "small", "great", "most"],
        "is_never_less": ["row", "one", "other"],
    },
    "turns": {
        "piles_turned": ["row", "hand", "downs"],
        "least_turned": ["row", "hand"],
        "by_turns": ["row", "hand"],
    },
    "rounds": {
        "piles_after": ["row", "hand", "rounds"],
        "comes_round": ["row", "hand"],
        "long_run": ["row", "hand"],
        "least_steady": ["row", "piles", "rounds"],
        "pile_at": ["row", "hand", "rounds", "index"],
    },
    "orders": {
        "counts": ["number", "hand"],
        "mean": ["number", "hand"],
        "first_order": ["number", "hand", "many"],
        "lengths_counted": ["number", "hand"],
        "are_lengths": ["lengths", "hand"],
        "row_of_lengths": ["lengths", "hand"],
    },
    "sources": {
        "windows": ["told", "hand"],
        "count_rows": ["told", "hand"],
        "first_row": ["told", "hand"],
        "rows_for": ["told", "hand"],
        "row_at": ["told", "hand", "index"],
        "index_of": ["told", "hand", "row"],
        "places": ["told", "hand"],
        "greatest_source_hand": ["told"],
        "sizes_for": ["row", "told"],
    },
    "edits": {
        "piles_without": ["row", "hand"],
        "best_out": ["row", "hand"],
        "piles_with": ["row", "hand", "card"],
        "best_in": ["row", "hand", "card"],
        "best_exchange": ["row", "hand"],
        "least_outs": ["row", "hand", "most"],
        "first_outs": ["row", "hand", "most"],
    },
    "merges": {
        "moves_of": ["lengths", "ways", "told"],
        "least_moves": ["lengths", "ways"],
        "best_plan": ["lengths", "ways"],
        "depth": ["number", "ways"],
        "least_neighbours": ["lengths"],
        "sort_moves": ["row", "hand", "ways"],
    },
    "texts": {
        "show_row": ["row"],
        "show_piles": ["piles"],
        "show_way": ["way"],
    },
    "readings": {
        "read_row": ["text"],
        "read_piles": ["text"],
        "read_way": ["text"],
    },
}
ERRORS = ["PileError", "InvalidHand", "InvalidWay", "InvalidNumber", "InvalidIndex", "InvalidPiles",
          "NotFitting", "HandFull", "NothingToUndo", "Unreadable"]


def text_of(name):
    with open(os.path.join(PACKAGE, name), encoding="utf-8", newline="") as file:
        return file.read()


def defined(name, kind):
    return {node.name: node for node in ast.parse(text_of(name)).body if isinstance(node, kind)}


class Package(unittest.TestCase):

    def test_functions_are_defined_in_their_files(self):
        for name, functions in FUNCTIONS.items():
            found = defined(name + ".py", ast.FunctionDef)
            module = importlib.import_module("handpiles." + name)
            for function, parameters in functions.items():
                arguments = found[function].args
                self.assertEqual([argument.arg for argument in arguments.args], parameters)
                self.assertEqual(arguments.posonlyargs + arguments.kwonlyargs + arguments.defaults, [])
                self.assertEqual(getattr(module, function).__module__, "handpiles." + name)

    def test_error_classes_are_defined_in_their_file(self):
        self.assertEqual(sorted(defined("errors.py", ast.ClassDef)), sorted(ERRORS))

    def test_live_tables_are_defined_in_their_file(self):
        self.assertEqual(sorted(defined("live.py", ast.ClassDef)), ["FreeTable", "Table"])

    def test_no_generator_expressions_where_a_class_compares(self):
        for name in os.listdir(PACKAGE):
            if name.endswith(".py"):
                for node in ast.walk(ast.parse(text_of(name))):
                    self.assertNotIsInstance(node, (ast.GeneratorExp, ast.Yield, ast.Try), name)

    def test_the_folder_holds_python_files_alone(self):
        names = [name for name in os.listdir(PACKAGE) if name != "__pycache__"]
        self.assertIn("__init__.py", names)
        for name in names:
            self.assertTrue(name.endswith(".py") and name == name.lower(), name)

    def test_sizes_and_characters(self):
        for name in os.listdir(PACKAGE):
            if not name.endswith(".py"):
                continue
            text = text_of(name)
            lines = text.split("\n")
            self.assertLess(len(lines), 400, name)
            self.assertLessEqual(max(len(line) for line in lines), 120, name)
            self.assertEqual([sign for sign in text if sign != "\n" and not " " <= sign <= "~"], [], name)
            for node in ast.walk(ast.parse(text)):
                if isinstance(node, ast.FunctionDef):
                    self.assertLessEqual(node.end_lineno - node.lineno + 1, 40, node.name)

    def test_imports_are_of_the_package_and_the_allowed_library(self):
        for name in os.listdir(PACKAGE):
            if not name.endswith(".py"):
                continue
            for node in ast.walk(ast.parse(text_of(name))):
                self.assertNotIsInstance(node, ast.Import, name)
                if isinstance(node, ast.ImportFrom):
                    self.assertEqual(node.level, 0, name)
                    if node.module not in ("heapq", "math", "itertools", "collections"):
                        self.assertTrue(node.module.startswith("handpiles."), name)


if __name__ == "__main__":
    unittest.main()
