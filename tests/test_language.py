"""Those rules of LANGUAGE.md that are plain to test: files, imports, sizes, characters."""

import ast
import builtins
import pathlib
import unittest

PACKAGE = pathlib.Path(__file__).resolve().parent.parent / "handedvotes"

BUILTINS = {
    "len", "range", "enumerate", "zip", "min", "max", "sum", "sorted", "int", "str", "bool", "list", "tuple", "dict",
    "isinstance", "any", "all", "set", "property", "ValueError", "OverflowError", "TypeError", "NotImplemented"}
METHODS = {"append", "extend", "get", "items", "index", "join", "partition", "split"}
WORDS = {"register", "mro", "elements", "open", "input", "law", "type", "vars", "id", "dir", "eval", "exec", "super",
         "hash", "next", "format", "args", "sort", "update", "hex", "encode", "decode"}


def sources():
    return {path.name: path.read_text(encoding="utf-8") for path in PACKAGE.glob("*.py")}


def imports(source):
    return [node for node in ast.walk(ast.parse(source)) if isinstance(node, (ast.Import, ast.ImportFrom))]


class LanguageTest(unittest.TestCase):
    def test_files(self):
        self.assertIn("__init__.py", sources())
        others = [path.name for path in PACKAGE.iterdir()
                  if path.suffix != ".py" and path.name != "__pycache__"]
        self.assertEqual(others, [])

    def test_imports_name_modules_of_the_package_and_what_the_library_may_give(self):
        for name, source in sources().items():
            for node in imports(source):
                self.assertIsInstance(node, ast.ImportFrom, name)
                self.assertEqual(node.level, 0, name)
                self.assertEqual([one.asname for one in node.names if one.asname], [], name)
                if not node.module.startswith("handedvotes."):
                    self.assertEqual((node.module, [one.name for one in node.names]), ("math", ["gcd"]), name)

    def test_no_two_files_import_from_each_other(self):
        above = {f"handedvotes.{name[:-3]}": {node.module for node in imports(source)}
                 for name, source in sources().items()}
        left = set(above)
        while left:
            free = {name for name in left if not above[name] & left}
            self.assertTrue(free, left)
            left -= free

    def test_names_of_imports_and_classes_mean_nothing_else(self):
        for name, source in sources().items():
            tree = ast.parse(source)
            outer = {one.name for node in imports(source) for one in node.names}
            outer |= {node.name for node in tree.body if isinstance(node, ast.ClassDef)}
            inner = [node.arg for node in ast.walk(tree) if isinstance(node, ast.arg)]
            inner += [node.id for node in ast.walk(tree)
                      if isinstance(node, ast.Name) and not isinstance(node.ctx, ast.Load)]
            self.assertEqual(outer & set(inner), set(), name)
            self.assertEqual([one for one in inner if hasattr(builtins, one)], [], name)

    def test_statements_and_values_that_are_left_out(self):
        barred = (ast.Global, ast.AsyncFunctionDef, ast.Await, ast.Div)
        for name, source in sources().items():
            for node in ast.walk(ast.parse(source)):
                self.assertNotIsInstance(node, barred, name)
                if isinstance(node, ast.Constant):
                    self.assertNotIsInstance(node.value, float, name)

    def test_builtins_that_are_used(self):
        for name, source in sources().items():
            tree = ast.parse(source)
            used = {node.id for node in ast.walk(tree) if isinstance(node, ast.Name) and hasattr(builtins, node.id)}
            self.assertLessEqual(used, BUILTINS, name)

    def test_methods_of_builtin_values_that_are_used(self):
        own = {node.name for source in sources().values() for node in ast.walk(ast.parse(source))
               if isinstance(node, ast.FunctionDef)}
        for name, source in sources().items():
            called = {node.func.attr for node in ast.walk(ast.parse(source))
                      if isinstance(node, ast.Call) and isinstance(node.func, ast.Attribute)}
            self.assertLessEqual(called - own, METHODS, name)

    def test_words_that_do_not_occur(self):
        for name, source in sources().items():
            for node in ast.walk(ast.parse(source)):
                word = getattr(node, "id", getattr(node, "attr", getattr(node, "name", "")))
                self.assertNotIn(word, WORDS, name)
                if isinstance(node, ast.Constant) and isinstance(node.value, str):
                    self.assertNotIn("%", node.value, name)

    def test_no_dict_or_list_of_a_module_is_changed_or_passed_on(self):
        for name, source in sources().items():
            tree = ast.parse(source)
            tables = {node.targets[0].id for node in tree.body
                      if isinstance(node, ast.Assign) and isinstance(node.value, (ast.Dict, ast.List))}
            read = [node.value.id for node in ast.walk(tree)
                    if isinstance(node, (ast.Attribute, ast.Subscript)) and isinstance(node.value, ast.Name)
                    and node.value.id in tables]
            named = [node.id for node in ast.walk(tree) if isinstance(node, ast.Name) and node.id in tables
                     and isinstance(node.ctx, ast.Load)]
            self.assertEqual(sorted(read), sorted(named), name)

    def test_sizes(self):
        for name, source in sources().items():
            lines = source.split("\n")
            self.assertLess(len(lines), 400, name)
            self.assertLessEqual(max(len(line) for line in lines), 120, name)
            for node in ast.walk(ast.parse(source)):
                if isinstance(node, ast.FunctionDef):
                    self.assertLessEqual(node.end_lineno - node.lineno + 1, 40, node.name)

    def test_characters(self):
        for name, source in sources().items():
            wrong = [sign for sign in source if sign != "\n" and not " " <= sign <= "~"]
            self.assertEqual(wrong, [], name)


if __name__ == "__main__":
    unittest.main()
