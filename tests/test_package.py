"""Tests of the package's form: the interface stands where it is listed, and the files keep simple language rules."""

import ast
import pathlib
import unittest
import warnings

import rankeffect

PACKAGE = pathlib.Path(rankeffect.__file__).parent

# Of each file of the interface: the classes, with the methods and properties that each one defines itself.
CLASSES = {
    "errors.py": {
        "RankError": [], "InvalidList": ["__init__"], "InvalidStep": ["__init__"], "InvalidTable": ["__init__"],
        "InvalidEffect": ["__init__"], "InvalidNumber": ["__init__"], "InvalidFacts": ["__init__"],
        "InvalidName": ["__init__"], "InvalidCommand": ["__init__"], "ParseError": ["__init__"],
        "StepFailed": ["__init__"], "LimitExceeded": ["__init__"], "NothingToUndo": ["__init__"],
        "NothingToRedo": ["__init__"],
    },
    "sequences.py": {
        "Sequence": ["__init__", "is_step", "steps", "__len__", "__add__", "__mul__", "__eq__", "__call__", "walk"],
    },
    "tables.py": {
        "Table": ["__init__", "start", "lost", "__call__", "__add__", "least", "growth", "__bool__", "__eq__"],
    },
    "effects.py": {
        "Effect": ["__init__", "of", "nothing", "breaks", "tables", "need", "growth", "table", "__call__", "__add__",
                   "__mul__", "shifted", "__bool__", "__eq__"],
    },
    "repeating.py": {
        "Repetition": ["__init__", "count", "loses", "lost_up_to", "nth_lost", "need", "growth", "__call__"],
    },
    "logs.py": {
        "Log": ["__init__", "sequence", "effect", "authors", "insert", "add", "attempt", "remove", "undo", "redo"],
    },
    "console.py": {"Console": ["__init__", "run"]},
}
# Of each file of the interface: the functions, with their parameters.
FUNCTIONS = {
    "comparing.py": {
        "separating_list": ["first", "second"], "first_difference": ["first", "second"],
        "is_separating": ["first", "second", "value"],
    },
    "results.py": {"kept": ["effect", "counts"], "kept_numbers": ["effect", "length"]},
    "removing.py": {
        "old_rank": ["sequence", "repetition", "index"], "removal_of": ["sequence", "rank"],
        "never_removed": ["sequence"],
    },
    "exchanging.py": {
        "exchanged": ["sequence", "index"], "normal_form": ["sequence"], "is_connected": ["first", "second"],
    },
    "searching.py": {
        "count_sequences": ["effect", "numbers", "ranks", "length"],
        "first_sequence": ["effect", "numbers", "ranks", "most"],
    },
    "tops.py": {"resolved": ["length", "steps"]},
    "observing.py": {"agreeing": ["sequences", "facts"], "best_list": ["sequences", "lists"]},
    "formats.py": {
        "format_sequence": ["sequence"], "format_effect": ["effect"], "parse_sequence": ["text"],
        "parse_effect": ["text"], "effect_grid": ["effect"],
    },
}


def package_files():
    return sorted(path for path in PACKAGE.rglob("*") if path.is_file() and "__pycache__" not in path.parts)


def parsed(path):
    return ast.parse(path.read_text(encoding="utf-8"))


class InterfaceTest(unittest.TestCase):
    def test_classes_stand_in_their_files(self):
        for name, classes in CLASSES.items():
            found = {node.name: node for node in parsed(PACKAGE / name).body if isinstance(node, ast.ClassDef)}
            for class_name, methods in classes.items():
                self.assertIn(class_name, found)
                own = [node.name for node in found[class_name].body if isinstance(node, ast.FunctionDef)]
                for method in methods:
                    self.assertIn(method, own, class_name)

    def test_functions_stand_in_their_files(self):
        for name, functions in FUNCTIONS.items():
            found = {node.name: node for node in parsed(PACKAGE / name).body if isinstance(node, ast.FunctionDef)}
            for function_name, parameters in functions.items():
                self.assertIn(function_name, found)
                self.assertEqual([argument.arg for argument in found[function_name].args.args], parameters)


class LanguageTest(unittest.TestCase):
    def test_only_python_files(self):
        for path in package_files():
            self.assertEqual(path.suffix, ".py", path)

    def test_each_folder_is_a_package(self):
        for path in package_files():
            self.assertTrue((path.parent / "__init__.py").is_file(), path)

    def test_sizes_and_characters(self):
        for path in package_files():
            text = path.read_text(encoding="utf-8")
            lines = text.split("\n")
            self.assertLessEqual(len(lines), 399, path)
            self.assertLessEqual(max(len(line) for line in lines), 120, path)
            self.assertTrue(all(sign == "\n" or " " <= sign <= "~" for sign in text), path)

    def test_lengths_of_functions(self):
        for path in package_files():
            for node in ast.walk(parsed(path)):
                if isinstance(node, ast.FunctionDef):
                    self.assertLessEqual(node.end_lineno - node.lineno + 1, 40, (path, node.name))

    def test_imports_only_from_the_package(self):
        for path in package_files():
            for node in ast.walk(parsed(path)):
                self.assertNotIsInstance(node, ast.Import, path)
                if isinstance(node, ast.ImportFrom):
                    self.assertEqual(node.level, 0, path)
                    self.assertEqual(node.module.split(".")[0], "rankeffect", path)

    def test_no_warnings(self):
        for path in package_files():
            with warnings.catch_warnings():
                warnings.simplefilter("error")
                compile(path.read_text(encoding="utf-8"), str(path), "exec")


if __name__ == "__main__":
    unittest.main()
