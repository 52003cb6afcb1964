"""Those rules for the files of the package that can be seen line by line."""

import ast
import pathlib
import unittest

PACKAGE = pathlib.Path(__file__).resolve().parent.parent / "endshare"
LIBRARY = ("heapq", "math", "itertools", "collections", "__future__")


def sources():
    return sorted(PACKAGE.rglob("*.py"))


class Files(unittest.TestCase):
    def test_the_folder_holds_python_files_only(self):
        others = [
            path.name
            for path in PACKAGE.rglob("*")
            if path.suffix != ".py" and path.name != "__pycache__" and path.suffix != ".pyc"
        ]
        self.assertEqual(others, [])
        self.assertIn(PACKAGE / "__init__.py", sources())

    def test_lines_and_signs(self):
        for path in sources():
            text = path.read_bytes().decode("ascii")
            with self.subTest(file=path.name):
                self.assertTrue(all(sign == "\n" or " " <= sign <= "~" for sign in text))
                self.assertLessEqual(len(text.splitlines()), 399)
                self.assertLessEqual(max(len(line) for line in text.splitlines()), 120)

    def test_functions_are_short_and_bare(self):
        for path in sources():
            for node in ast.walk(ast.parse(path.read_text())):
                if isinstance(node, ast.FunctionDef):
                    with self.subTest(file=path.name, function=node.name):
                        self.assertLessEqual(node.end_lineno - node.lineno + 1, 40)
                        self.assertEqual(node.decorator_list, [])

    def test_imports_are_of_the_package(self):
        for path in sources():
            for node in ast.walk(ast.parse(path.read_text())):
                with self.subTest(file=path.name):
                    self.assertNotIsInstance(node, ast.Import)
                    if isinstance(node, ast.ImportFrom):
                        self.assertEqual(node.level, 0)
                        first = node.module.split(".")[0]
                        self.assertIn(first, LIBRARY + (PACKAGE.name,))


if __name__ == "__main__":
    unittest.main()
