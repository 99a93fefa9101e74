"""The form of the package's files: what can be seen of it without running them."""

import ast
import builtins
import pathlib
import unittest

PACKAGE = pathlib.Path(__file__).resolve().parent.parent / "alikeboard"
LIBRARY = ("heapq", "math", "itertools", "collections", "__future__")
BUILTINS = ("len range enumerate zip min max sum abs sorted reversed int str bool bytes list tuple dict set isinstance "
            "ord repr any all divmod super ValueError KeyError").split()
METHODS = ("append clear copy count endswith extend find get index insert items join keys pop remove replace reverse "
           "setdefault split startswith strip update values").split()
STATEMENTS = (ast.Expr, ast.Assign, ast.AugAssign, ast.If, ast.While, ast.For, ast.Return, ast.Break, ast.Continue,
              ast.Pass, ast.Raise, ast.Delete, ast.Try, ast.FunctionDef, ast.ClassDef, ast.ImportFrom)
ORDER = ("errors", "terms", "facts", "closing", "worlds", "whys", "steps", "board", "book")


class Form(unittest.TestCase):
    def each_file(self):
        for path in sorted(PACKAGE.glob("*.py")):
            yield path.name, path.read_bytes().decode("ascii")

    def test_the_folder_holds_python_files_only(self):
        others = [path.name for path in PACKAGE.iterdir() if path.suffix != ".py" and path.name != "__pycache__"]
        self.assertEqual(others, [])
        self.assertTrue((PACKAGE / "__init__.py").is_file())

    def test_each_sign_is_one_from_the_blank_to_the_tilde_or_a_line_feed(self):
        for name, text in self.each_file():
            self.assertEqual([sign for sign in text if sign != "\n" and not " " <= sign <= "~"], [], name)

    def test_files_lines_and_functions_are_short(self):
        for name, text in self.each_file():
            rows = text.split("\n")
            self.assertLessEqual(len(rows), 399, name)
            self.assertLessEqual(max(len(row) for row in rows), 120, name)
            for node in ast.walk(ast.parse(text)):
                if isinstance(node, ast.FunctionDef):
                    self.assertLessEqual(node.end_lineno - node.lineno + 1, 40, f"{name} {node.name}")

    def test_imports_name_the_package_or_the_few_library_modules(self):
        for name, text in self.each_file():
            for node in ast.walk(ast.parse(text)):
                self.assertNotIsInstance(node, ast.Import, name)
                if isinstance(node, ast.ImportFrom):
                    self.assertEqual(node.level, 0, name)
                    self.assertTrue(node.module.startswith("alikeboard.") or node.module in LIBRARY, name)

    def each_tree(self):
        for name, text in self.each_file():
            yield name, ast.parse(text)

    def test_files_import_only_from_those_ahead_of_them(self):
        for name, tree in self.each_tree():
            for node in ast.walk(tree):
                if isinstance(node, ast.ImportFrom) and node.module not in LIBRARY:
                    ahead = ORDER[:ORDER.index(name.removesuffix(".py"))]
                    self.assertIn(node.module.removeprefix("alikeboard."), ahead, name)

    def test_statements_are_of_the_few_kinds(self):
        for name, tree in self.each_tree():
            for node in ast.walk(tree):
                if isinstance(node, ast.stmt):
                    self.assertIsInstance(node, STATEMENTS, f"{name} {node.lineno}")

    def test_only_a_few_builtins_are_used_and_none_gets_another_meaning(self):
        words = dir(builtins)
        barred = [word for word in words if word not in BUILTINS]
        for name, tree in self.each_tree():
            for node in ast.walk(tree):
                if isinstance(node, ast.Name):
                    self.assertNotIn(node.id, barred if isinstance(node.ctx, ast.Load) else words, name)
                if isinstance(node, (ast.FunctionDef, ast.ClassDef)):
                    self.assertNotIn(node.name, words, name)
                if isinstance(node, ast.arg):
                    self.assertNotIn(node.arg, words, name)

    def test_methods_are_own_ones_or_of_the_few_of_builtin_values(self):
        trees = dict(self.each_tree())
        own = [node.name for tree in trees.values() for node in ast.walk(tree) if isinstance(node, ast.FunctionDef)]
        for name, tree in trees.items():
            for node in ast.walk(tree):
                if isinstance(node, ast.Call) and isinstance(node.func, ast.Attribute):
                    # A set's add stands only where no class has a method of that name.
                    self.assertIn(node.func.attr, [*own, *METHODS, "add"], name)
        self.assertNotIn("add", own)

    def test_no_floats_no_slashes_and_no_per_cent_signs(self):
        for name, tree in self.each_tree():
            for node in ast.walk(tree):
                self.assertNotIsInstance(node, ast.Div, name)
                if isinstance(node, ast.Constant):
                    self.assertNotIsInstance(node.value, float, name)
                    self.assertNotIn("%", str(node.value), name)


if __name__ == "__main__":
    unittest.main()
