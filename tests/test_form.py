"""The form of the package's files: what can be seen of it without running them."""

import ast
import pathlib
import unittest

PACKAGE = pathlib.Path(__file__).resolve().parent.parent / "alikeboard"
LIBRARY = ("heapq", "math", "itertools", "collections", "__future__")


class Form(unittest.TestCase):
    def each_file(self):
        for path in sorted(PACKAGE.glob("*.py")):
            yield path.name, path.read_bytes().decode("ascii")

    def test_the_folder_holds_python_files_only(self):
        others = [path.name for path in PACKAGE.iterdir() if path.suffix != ".py" and path.name != "__pycache__"]
        self.assertEqual(others, [])
        self.assertTrue((PACKAGE / "__init__.py").is_file())

    def test_each_sign_is_one_from_the_blank_to_the_tilde_or_a_line_feed(self):
        for name, text in self.each_file():
            self.assertEqual([sign for sign in text if sign != "\n" and not " " <= sign <= "~"], [], name)

    def test_files_lines_and_functions_are_short(self):
        for name, text in self.each_file():
            rows = text.split("\n")
            self.assertLessEqual(len(rows), 399, name)
            self.assertLessEqual(max(len(row) for row in rows), 120, name)
            for node in ast.walk(ast.parse(text)):
                if isinstance(node, ast.FunctionDef):
                    self.assertLessEqual(node.end_lineno - node.lineno + 1, 40, f"{name} {node.name}")

    def test_imports_name_the_package_or_the_few_library_modules(self):
        for name, text in self.each_file():
            for node in ast.walk(ast.parse(text)):
                self.assertNotIsInstance(node, ast.Import, name)
                if isinstance(node, ast.ImportFrom):
                    self.assertEqual(node.level, 0, name)
                    self.assertTrue(node.module.startswith("alikeboard.") or node.module in LIBRARY, name)


if __name__ == "__main__":
    unittest.main()
