"""The package's files: what they may hold, and that they draw on nothing from outside."""

import ast
import pathlib
import re
import unittest

PACKAGE = pathlib.Path(__file__).resolve().parent.parent / "putaway"
FILES = [path for path in sorted(PACKAGE.rglob("*")) if "__pycache__" not in path.parts]
OUTSIDE = ("print", "open", "input", "eval", "exec", "compile", "__import__", "globals", "getattr", "setattr")


def nodes_of(path, *kinds):
    return [node for node in ast.walk(ast.parse(path.read_text("ascii"))) if isinstance(node, kinds)]


class Form(unittest.TestCase):
    def test_the_files(self):
        names = [path.name for path in FILES]
        self.assertIn("__init__.py", names)
        self.assertIn("work.py", names)
        for name in names:
            self.assertRegex(name, r"\A[a-z0-9_]+\.py\Z")

    def test_signs_and_size(self):
        for path in FILES:
            with self.subTest(path=path.name):
                text = path.read_bytes().decode("ascii")
                self.assertIsNone(re.search(r"[^ -~\n]", text))
                self.assertLessEqual(len(text.split("\n")), 400)
                self.assertLessEqual(max(len(line) for line in text.split("\n")), 120)
                for node in nodes_of(path, ast.FunctionDef):
                    self.assertLessEqual(node.end_lineno - node.lineno + 1, 40, node.name)

    def test_imports_are_the_packages_own(self):
        for path in FILES:
            with self.subTest(path=path.name):
                self.assertEqual(nodes_of(path, ast.Import), [])
                for node in nodes_of(path, ast.ImportFrom):
                    self.assertEqual((node.level, node.module.split(".")[0]), (0, "putaway"))

    def test_nothing_reaches_outside(self):
        for path in FILES:
            with self.subTest(path=path.name):
                names = [node.id for node in nodes_of(path, ast.Name)]
                self.assertEqual([name for name in names if name in OUTSIDE], [])


if __name__ == "__main__":
    unittest.main()
