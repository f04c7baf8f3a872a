"""Some rules of the language in which the package is written: those that a short test can see."""

import ast
import pathlib
import unittest

PACKAGE = pathlib.Path(__file__).resolve().parent.parent / "graft"
BUILTINS = {"len", "range", "enumerate", "zip", "min", "max", "sum", "abs", "sorted", "reversed", "int", "str", "bool",
            "list", "tuple", "dict", "set", "isinstance", "ord", "repr", "any", "all", "divmod", "ValueError",
            "KeyError"}


def files():
    return sorted(PACKAGE.iterdir())


class LanguageTest(unittest.TestCase):
    def test_the_folder_contains_python_files_only(self):
        for path in files():
            if path.name != "__pycache__":
                self.assertEqual(path.suffix, ".py", path)

    def test_sizes_and_characters(self):
        for path in files():
            if path.suffix == ".py":
                lines = path.read_text(encoding="utf-8").split("\n")
                self.assertLess(len(lines), 400, path)
                for line in lines:
                    self.assertLessEqual(len(line), 120, (path, line))
                    self.assertTrue(all(" " <= sign <= "~" for sign in line), (path, line))

    def test_functions_strings_and_imports(self):
        for path in files():
            if path.suffix == ".py":
                for node in ast.walk(ast.parse(path.read_text(encoding="utf-8"))):
                    self.look_at(path, node)

    def look_at(self, path, node):
        where = (path.name, getattr(node, "lineno", 0))
        if isinstance(node, ast.FunctionDef):
            self.assertLessEqual(node.end_lineno - node.lineno + 1, 40, where)
        if isinstance(node, ast.ImportFrom):
            self.assertEqual(node.level, 0, where)
            self.assertTrue(node.module.startswith("graft."), where)
            self.assertNotIn("*", [name.name for name in node.names], where)
        if isinstance(node, ast.Constant):
            self.assertNotIsInstance(node.value, float, where)
            self.assertFalse(isinstance(node.value, str) and "%" in node.value, where)
        self.assertNotIsInstance(node, (ast.Import, ast.Global, ast.AsyncFunctionDef, ast.Div), where)

    def test_builtins(self):
        known = set(dir(__builtins__) if not isinstance(__builtins__, dict) else __builtins__)
        for path in files():
            if path.suffix == ".py":
                for node in ast.walk(ast.parse(path.read_text(encoding="utf-8"))):
                    if isinstance(node, ast.Name) and node.id in known:
                        self.assertIn(node.id, BUILTINS, (path.name, node.lineno))


if __name__ == "__main__":
    unittest.main()
