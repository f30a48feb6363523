"""What holds for the files of the package: what they import, and their sizes and characters."""

import ast
import doctest
import pathlib
import unittest

ROOT = pathlib.Path(__file__).resolve().parent.parent
PACKAGE = ROOT / "eventsteps"
FUNCTIONS = (ast.FunctionDef, ast.AsyncFunctionDef)
# What ../shared/LANGUAGE.md lets the package import beside itself.
LIBRARY = ("heapq", "math", "itertools", "collections")


def trees():
    return [(path.name, ast.parse(path.read_text())) for path in sorted(PACKAGE.glob("*.py"))]


class PackageTest(unittest.TestCase):
    def test_the_folder_holds_only_its_files(self):
        names = [path.name for path in PACKAGE.iterdir() if path.name != "__pycache__"]
        self.assertIn("__init__.py", names)
        self.assertEqual([name for name in names if not name.endswith(".py")], [])

    def test_imports(self):
        for name, tree in trees():
            for node in ast.walk(tree):
                with self.subTest(name):
                    self.assertNotIsInstance(node, ast.Import)
                    if isinstance(node, ast.ImportFrom):
                        self.assertEqual(node.level, 0)
                        self.assertIn(node.module.split(".")[0], ("eventsteps",) + LIBRARY)

    def test_no_function_opens_or_prints_anything(self):
        for name, tree in trees():
            names = {node.id for node in ast.walk(tree) if isinstance(node, ast.Name)}
            with self.subTest(name):
                self.assertEqual(names & {"open", "input", "print", "eval", "exec", "hash", "id"}, set())

    def test_sizes_and_characters(self):
        for path in sorted(PACKAGE.glob("*.py")):
            with self.subTest(path.name):
                text = path.read_text()
                self.assertTrue(all(sign == "\n" or " " <= sign <= "~" for sign in text))
                self.assertLess(len(text.splitlines()), 400)
                self.assertLessEqual(max(map(len, text.splitlines())), 120)

    def test_sizes_of_functions(self):
        for name, tree in trees():
            for node in ast.walk(tree):
                if isinstance(node, FUNCTIONS):
                    with self.subTest(name, function=node.name):
                        self.assertLessEqual(node.end_lineno - node.lineno + 1, 40)

    def test_the_examples_of_the_readme(self):
        failed, tried = doctest.testfile(str(ROOT / "README.md"), module_relative=False)
        self.assertEqual(failed, 0)
        self.assertGreater(tried, 0)


if __name__ == "__main__":
    unittest.main()
