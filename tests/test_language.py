"""Those rules of LANGUAGE.md that are plain to test: files, imports, sizes, characters."""

import ast
import builtins
import pathlib
import unittest

PACKAGE = pathlib.Path(__file__).resolve().parent.parent / "handedvotes"


def sources():
    return {path.name: path.read_text(encoding="utf-8") for path in PACKAGE.glob("*.py")}


def imports(source):
    return [node for node in ast.walk(ast.parse(source)) if isinstance(node, (ast.Import, ast.ImportFrom))]


class LanguageTest(unittest.TestCase):
    def test_files(self):
        self.assertIn("__init__.py", sources())
        others = [path.name for path in PACKAGE.iterdir()
                  if path.suffix != ".py" and path.name != "__pycache__"]
        self.assertEqual(others, [])

    def test_imports_name_modules_of_the_package_and_what_the_library_may_give(self):
        for name, source in sources().items():
            for node in imports(source):
                self.assertIsInstance(node, ast.ImportFrom, name)
                self.assertEqual(node.level, 0, name)
                self.assertEqual([one.asname for one in node.names if one.asname], [], name)
                if not node.module.startswith("handedvotes."):
                    self.assertEqual((node.module, [one.name for one in node.names]), ("math", ["gcd"]), name)

    def test_no_two_files_import_from_each_other(self):
        above = {f"handedvotes.{name[:-3]}": {node.module for node in imports(source)}
                 for name, source in sources().items()}
        left = set(above)
        while left:
            free = {name for name in left if not above[name] & left}
            self.assertTrue(free, left)
            left -= free

    def test_names_of_imports_and_classes_mean_nothing_else(self):
        for name, source in sources().items():
            tree = ast.parse(source)
            outer = {one.name for node in imports(source) for one in node.names}
            outer |= {node.name for node in tree.body if isinstance(node, ast.ClassDef)}
            inner = [node.arg for node in ast.walk(tree) if isinstance(node, ast.arg)]
            inner += [node.id for node in ast.walk(tree)
                      if isinstance(node, ast.Name) and not isinstance(node.ctx, ast.Load)]
            self.assertEqual(outer & set(inner), set(), name)
            self.assertEqual([one for one in inner if hasattr(builtins, one)], [], name)

    def test_statements_and_values_that_are_left_out(self):
        barred = (ast.Global, ast.AsyncFunctionDef, ast.Await, ast.Div)
        for name, source in sources().items():
            for node in ast.walk(ast.parse(source)):
                self.assertNotIsInstance(node, barred, name)
                if isinstance(node, ast.Constant):
                    self.assertNotIsInstance(node.value, float, name)

    def test_sizes(self):
        for name, source in sources().items():
            lines = source.split("\n")
            self.assertLess(len(lines), 400, name)
            self.assertLessEqual(max(len(line) for line in lines), 120, name)
            for node in ast.walk(ast.parse(source)):
                if isinstance(node, ast.FunctionDef):
                    self.assertLessEqual(node.end_lineno - node.lineno + 1, 40, node.name)

    def test_characters(self):
        for name, source in sources().items():
            wrong = [sign for sign in source if sign != "\n" and not " " <= sign <= "~"]
            self.assertEqual(wrong, [], name)


if __name__ == "__main__":
    unittest.main()
