"""The rules of LANGUAGE.md that can be seen from the text of a file alone."""

import ast
import pathlib
import unittest

PACKAGE = pathlib.Path(__file__).resolve().parent.parent / "flagclause"
FILES = sorted(PACKAGE.rglob("*.py"))
FUNCTIONS = (ast.FunctionDef, ast.Lambda)


class LanguageTest(unittest.TestCase):
    def check_files(self, check):
        self.assertTrue(FILES)
        for path in FILES:
            with self.subTest(path.name):
                check(path.read_bytes().decode("utf-8"))

    def test_only_python_files(self):
        others = [path for path in PACKAGE.rglob("*") if path.is_file() and path.suffix not in (".py", ".pyc")]
        self.assertEqual(others, [])
        self.assertTrue((PACKAGE / "__init__.py").is_file())

    def test_characters(self):
        def check(text):
            self.assertEqual([letter for letter in text if letter != "\n" and not " " <= letter <= "~"], [])
            for node in ast.walk(ast.parse(text)):
                if isinstance(node, ast.Constant) and isinstance(node.value, str):
                    self.assertNotIn("%", node.value)

        self.check_files(check)

    def test_sizes(self):
        def check(text):
            rows = text.split("\n")
            self.assertLessEqual(len(rows), 399)
            self.assertLessEqual(max(len(row) for row in rows), 120)
            for node in ast.walk(ast.parse(text)):
                if isinstance(node, FUNCTIONS):
                    self.assertLessEqual(node.end_lineno - node.lineno + 1, 40)

        self.check_files(check)

    def test_imports(self):
        def check(text):
            for node in ast.walk(ast.parse(text)):
                self.assertNotIsInstance(node, ast.Import)
                if isinstance(node, ast.ImportFrom):
                    self.assertEqual(node.level, 0)
                    if node.module == "itertools":
                        self.assertLessEqual({name.name for name in node.names}, {"product", "combinations"})
                    else:
                        self.assertTrue(node.module.startswith("flagclause."))

        self.check_files(check)


if __name__ == "__main__":
    unittest.main()
