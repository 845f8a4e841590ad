"""Those rules of LANGUAGE.md that are plain to test: files, imports, sizes, characters."""

import ast
import pathlib
import unittest

PACKAGE = pathlib.Path(__file__).resolve().parent.parent / "handedvotes"


def sources():
    return {path.name: path.read_text(encoding="utf-8") for path in PACKAGE.glob("*.py")}


def imports(source):
    return [node for node in ast.walk(ast.parse(source)) if isinstance(node, (ast.Import, ast.ImportFrom))]


class LanguageTest(unittest.TestCase):
    def test_files(self):
        self.assertIn("__init__.py", sources())
        others = [path.name for path in PACKAGE.iterdir()
                  if path.suffix != ".py" and path.name != "__pycache__"]
        self.assertEqual(others, [])

    def test_imports_name_modules_of_the_package_alone(self):
        for name, source in sources().items():
            for node in imports(source):
                self.assertIsInstance(node, ast.ImportFrom, name)
                self.assertEqual(node.level, 0, name)
                self.assertTrue(node.module.startswith("handedvotes."), name)

    def test_sizes(self):
        for name, source in sources().items():
            lines = source.split("\n")
            self.assertLess(len(lines), 400, name)
            self.assertLessEqual(max(len(line) for line in lines), 120, name)
            for node in ast.walk(ast.parse(source)):
                if isinstance(node, ast.FunctionDef):
                    self.assertLessEqual(node.end_lineno - node.lineno + 1, 40, node.name)

    def test_characters(self):
        for name, source in sources().items():
            wrong = [sign for sign in source if sign != "\n" and not " " <= sign <= "~"]
            self.assertEqual(wrong, [], name)


if __name__ == "__main__":
    unittest.main()
