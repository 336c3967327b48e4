"""The form of the package's files, as far as it can be counted, and the examples of README.md."""

import ast
import doctest
import pathlib
import unittest

ROOT = pathlib.Path(__file__).resolve().parent.parent
PACKAGE = ROOT / "sortweb"
MOST_IN_A_FUNCTION, MOST_IN_A_FILE, MOST_IN_A_LINE = 40, 399, 120


class Form(unittest.TestCase):
    def setUp(self):
        self.texts = {path.name: path.read_bytes().decode("ascii") for path in sorted(PACKAGE.glob("*.py"))}

    def test_the_folder_contains_files_of_the_program_alone(self):
        names = [path.name for path in PACKAGE.iterdir() if path.name != "__pycache__"]
        self.assertEqual(sorted(names), sorted(self.texts))
        self.assertIn("__init__.py", names)

    def test_characters_and_lengths(self):
        for name, text in self.texts.items():
            with self.subTest(name):
                self.assertEqual([sign for sign in text if not (" " <= sign <= "~" or sign == "\n")], [])
                self.assertLessEqual(len(text.split("\n")), MOST_IN_A_FILE)
                self.assertLessEqual(max(map(len, text.split("\n"))), MOST_IN_A_LINE)

    def test_functions_are_small(self):
        for name, text in self.texts.items():
            for node in ast.walk(ast.parse(text)):
                if isinstance(node, ast.FunctionDef):
                    with self.subTest(f"{name}: {node.name}"):
                        self.assertLessEqual(node.end_lineno - node.lineno + 1, MOST_IN_A_FUNCTION)

    def test_nothing_from_outside_is_imported(self):
        for name, text in self.texts.items():
            for node in ast.walk(ast.parse(text)):
                self.assertNotIsInstance(node, ast.Import, name)
                if isinstance(node, ast.ImportFrom):
                    self.assertTrue(node.level == 0 and node.module.startswith("sortweb."), name)


class Readme(unittest.TestCase):
    def test_its_examples_hold(self):
        failed, tried = doctest.testfile(str(ROOT / "README.md"), module_relative=False)
        self.assertEqual(failed, 0)
        self.assertGreater(tried, 0)


if __name__ == "__main__":
    unittest.main()
