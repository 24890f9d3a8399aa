"""The interface's names and arguments, and what the package may not do."""

import ast
import contextlib
import inspect
import io
import pathlib
import unittest

from holecolumnsdesk import columns

PACKAGE = pathlib.Path(columns.__file__).parent
ARGUMENTS = {
    "where": ["what", "a", "b"],
    "masks": ["what", "a", "b"],
    "pack": ["a", "mask"],
}


class Interface(unittest.TestCase):
    def test_names_and_arguments(self):
        for name, arguments in ARGUMENTS.items():
            found = inspect.signature(getattr(columns, name)).parameters
            self.assertEqual(list(found), arguments)

    def test_arguments_by_name(self):
        self.assertEqual(columns.where(what=0, a=[0], b=[1]), [1, 1])
        self.assertEqual(columns.masks(what=2, a=[1], b=[0]), [1, 1])
        self.assertEqual(columns.pack(a=[7], mask=[1]), [1, 7])

    def test_calls_do_not_disturb_one_another(self):
        first = (columns.where(0, [0], [1]), columns.masks(4, [0], [0]), columns.pack([3], [1]))
        columns.where(9, [], [])
        columns.masks(9, [], [])
        columns.pack([1, 2, 3], [1, 0, 1])
        second = (columns.where(0, [0], [1]), columns.masks(4, [0], [0]), columns.pack([3], [1]))
        self.assertEqual(first, second)

    def test_prints_nothing(self):
        shown, told = io.StringIO(), io.StringIO()
        with contextlib.redirect_stdout(shown), contextlib.redirect_stderr(told):
            columns.where(0, [0], [1])
            columns.where(8, [0], [1])
            columns.masks(0, [0], [1])
            columns.masks(5, [0], [1])
            columns.pack([0], [1])
        self.assertEqual(shown.getvalue() + told.getvalue(), "")


class Files(unittest.TestCase):
    def test_imports_nothing(self):
        tree = ast.parse((PACKAGE / "columns.py").read_text())
        imports = [x for x in ast.walk(tree) if isinstance(x, (ast.Import, ast.ImportFrom))]
        self.assertEqual(imports, [])

    def test_signs_and_sizes(self):
        for path in PACKAGE.glob("*.py"):
            text = path.read_bytes().decode("ascii")
            self.assertTrue(all(sign == "\n" or " " <= sign <= "~" for sign in text))
            self.assertLessEqual(len(text.splitlines()), 400)
            self.assertLessEqual(max(len(line) for line in text.splitlines()), 120)
            for node in ast.walk(ast.parse(text)):
                if isinstance(node, ast.FunctionDef):
                    self.assertLessEqual(node.end_lineno - node.lineno + 1, 40, node.name)


if __name__ == "__main__":
    unittest.main()
