"""Those rules of LANGUAGE.md that a short test can see: files, imports, sizes, characters, what isn't used."""

import ast
import builtins
import pathlib
import unittest

FOLDER = pathlib.Path(__file__).resolve().parent.parent / "doneranges"
FILES = sorted(path for path in FOLDER.iterdir() if path.name != "__pycache__")
NOT_USED = (ast.Global, ast.AsyncFunctionDef, ast.AsyncFor, ast.AsyncWith, ast.Await, ast.Div)
CALLED = {"len", "range", "enumerate", "zip", "max", "sum", "sorted", "reversed", "int", "str", "list", "tuple",
          "isinstance", "any", "all"}
BUILTINS = set(dir(builtins))


class LanguageTest(unittest.TestCase):
    def each_tree(self):
        for path in FILES:
            yield path.name, ast.parse(path.read_text(encoding="utf-8"))

    def test_files_and_their_sizes(self):
        for path in FILES:
            self.assertRegex(path.name, "^[a-z_]+[.]py$")
            text = path.read_bytes()
            self.assertTrue(all(sign == 10 or 32 <= sign <= 126 for sign in text), path.name)
            lines = text.decode("ascii").splitlines()
            self.assertLessEqual(len(lines), 399, path.name)
            self.assertLessEqual(max(len(line) for line in lines), 120, path.name)

    def test_functions_are_small(self):
        for name, tree in self.each_tree():
            for node in ast.walk(tree):
                if isinstance(node, ast.FunctionDef):
                    self.assertLessEqual(node.end_lineno - node.lineno + 1, 40, (name, node.name))

    def test_imports(self):
        for name, tree in self.each_tree():
            for node in ast.walk(tree):
                self.assertNotIsInstance(node, ast.Import, name)
                if isinstance(node, ast.ImportFrom):
                    self.assertIn(node, tree.body)
                    self.assertEqual(node.level, 0)
                    told = [(one.name, one.asname) for one in node.names]
                    if node.module == "itertools":
                        self.assertEqual((name, told), ("sending.py", [("combinations", None)]))
                    else:
                        self.assertRegex(node.module, "^doneranges[.][a-z]+$")
                        self.assertTrue((FOLDER / (node.module.split(".")[1] + ".py")).exists())
                        self.assertTrue(all(one != "*" and other is None for one, other in told))

    def test_what_is_not_used(self):
        for name, tree in self.each_tree():
            for node in ast.walk(tree):
                self.assertNotIsInstance(node, NOT_USED, name)
                if isinstance(node, ast.Constant):
                    self.assertNotIsInstance(node.value, float, name)

    def test_which_builtins_are_called(self):
        for name, tree in self.each_tree():
            for node in ast.walk(tree):
                if isinstance(node, ast.Call) and isinstance(node.func, ast.Name) and node.func.id in BUILTINS:
                    self.assertIn(node.func.id, CALLED, name)

    def test_no_name_of_a_builtin_is_given_another_meaning(self):
        for name, tree in self.each_tree():
            for node in ast.walk(tree):
                if isinstance(node, (ast.FunctionDef, ast.ClassDef)):
                    self.assertNotIn(node.name, BUILTINS, name)
                elif isinstance(node, ast.arg):
                    self.assertNotIn(node.arg, BUILTINS, name)
                elif isinstance(node, ast.Name) and isinstance(node.ctx, ast.Store):
                    self.assertNotIn(node.id, BUILTINS, name)


if __name__ == "__main__":
    unittest.main()
