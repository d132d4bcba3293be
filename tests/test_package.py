"""The shape of the package: its files, sizes, characters, imports and interface."""

import ast
import importlib
import pathlib
import unittest

FOLDER = pathlib.Path(__file__).resolve().parent.parent / "matchboards"
INTERFACE = {
    "rules": ("is_rule", "is_rally", "is_row", "all_rules"),
    "running": ("boards_of", "state_after", "states_along", "points_made", "winner_of", "end_of"),
    "reaching": ("count_states", "row_to", "boards_that_come"),
    "reading": ("first_bar", "made", "remains", "bars"),
    "seeing": ("can_show", "showers", "first_row", "states_behind", "count_rows"),
    "spoken": ("is_within", "telling_boards", "spoken_classes"),
    "finding": ("rallies_needed", "finding_plan", "parting_row", "groups"),
    "choosing": ("best_rally", "count_same"),
    "kinds": ("alike_groups", "count_kinds"),
    "matches": ("shortest_match", "longest_match", "count_ends", "fewest_points", "lost_lead", "soonest"),
    "tables": ("Table",),
    "texts": ("format_rule", "format_row", "format_boards", "parse_rule", "parse_row", "parse_boards"),
    "telling": ("same", "telling_row", "classes", "telling_table", "same_winners", "winners_row"),
}
LIBRARY = {"heapq", "math", "itertools", "collections", "__future__"}


def files():
    return sorted(FOLDER.glob("**/*.py"))


class PackageTest(unittest.TestCase):
    def test_the_interface_is_defined_in_its_files(self):
        for name, functions in INTERFACE.items():
            module = importlib.import_module("matchboards." + name)
            for function in functions:
                self.assertEqual(getattr(module, function).__module__, "matchboards." + name)

    def test_the_folder_holds_nothing_else(self):
        for path in FOLDER.glob("**/*"):
            if path.is_file() and path.parent.name != "__pycache__":
                self.assertRegex(path.name, r"\A[a-z0-9_]+\.py\Z")

    def test_lines_and_characters(self):
        for path in files():
            text = path.read_text(encoding="utf-8")
            lines = text.split("\n")
            self.assertLess(len(lines), 401, path)
            self.assertLess(max(len(line) for line in lines), 121, path)
            self.assertTrue(all(mark == "\n" or " " <= mark <= "~" for mark in text), path)

    def test_functions_have_at_most_40_lines(self):
        for path in files():
            for node in ast.walk(ast.parse(path.read_text(encoding="utf-8"))):
                if isinstance(node, ast.FunctionDef):
                    self.assertLess(node.end_lineno - node.lineno, 40, node.name)

    def test_imports_are_from_the_package_or_the_allowed_library(self):
        for path in files():
            for node in ast.walk(ast.parse(path.read_text(encoding="utf-8"))):
                self.assertNotIsInstance(node, ast.Import, path)
                if isinstance(node, ast.ImportFrom):
                    self.assertEqual(node.level, 0, path)
                    self.assertIn(node.module.split(".")[0], LIBRARY | {"matchboards"}, path)


if __name__ == "__main__":
    unittest.main()
