"""The interface's names and arguments, and what the package may not do."""

import ast
import contextlib
import inspect
import io
import pathlib
import unittest

from helper import check_call
from holecolumnsdesk import columns

PACKAGE = pathlib.Path(columns.__file__).parent

# Each function by its name: calls with their arguments, in order, and the answer.
CALLS = {
    "where": [
        ({"what": 0, "a": [0], "b": [1]}, [1, 1]),
        ({"what": 8, "a": [0], "b": [1]}, [-1]),
    ],
    "masks": [
        ({"what": 2, "a": [1], "b": [0]}, [1, 1]),
        ({"what": 5, "a": [1], "b": [0]}, [-1]),
    ],
    "pack": [({"a": [7, 8], "mask": [0, 1]}, [1, 8])],
    "spread": [({"other": 5, "source": [7], "mask": [0, 1]}, [1, 5, 7])],
    "pick": [({"other": 5, "a": [7], "places": [-1, 0]}, [1, 5, 7])],
    "lay": [({"a": [7, 8], "places": [1, 2], "source": [5, 6]}, [1, 7, 5])],
    "add_at": [({"a": [7, 2147483647], "places": [1, 2], "source": [1, 6]}, [1, 7, -2147483648])],
    "choose": [({"mask": [0, 1], "a": [5, 6], "b": [7, 8]}, [0, 7, 6])],
    "limits": [
        ({"what": 0, "a": [0x7FC00000, 3], "b": [0xFFC00000, 2]}, [1, 0x7FC00000, 2]),
        ({"what": 2, "a": [1], "b": [0]}, [-1]),
    ],
    "hold": [({"a": [0x7FC00000, 3, 0xFFC00000]}, [1, 0x7FC00000, 3, 3])],
    "find": [
        ({"what": 0, "a": [1, 7, 5], "mask": [0, 1, 1]}, [1, 2]),
        ({"what": 1, "a": [1], "mask": [0]}, [0]),
        ({"what": 2, "a": [1], "mask": [1]}, [-1]),
    ],
    "total": [({"a": [1, -7, 5], "mask": [0, 1, 1]}, [2, -2])],
    "runs": [({"a": [4, 4, 0, 0x80000000]}, [3, 0, 2, 3])],
    "order": [({"a": [0x7FC00000, 4, 0, 0x80000000]}, [4, 2, 3, 1, 0])],
}


def every_call():
    return [(getattr(columns, name), given, answer) for name, calls in CALLS.items() for given, answer in calls]


class Interface(unittest.TestCase):
    def test_all_fourteen_are_called_here(self):
        self.assertEqual(len(CALLS), 14)

    def test_names_and_arguments(self):
        for name, calls in CALLS.items():
            found = inspect.signature(getattr(columns, name)).parameters
            for parameter in found.values():
                self.assertIs(parameter.kind, inspect.Parameter.POSITIONAL_OR_KEYWORD)
                self.assertIs(parameter.default, inspect.Parameter.empty)
            for given, answer in calls:
                self.assertEqual(list(found), list(given), name)

    def test_arguments_by_name(self):
        for call, given, answer in every_call():
            self.assertEqual(call(**given), answer)

    def test_arguments_in_order(self):
        for call, given, answer in every_call():
            check_call(self, call, list(given.values()), answer)

    def test_calls_do_not_disturb_one_another(self):
        for first, given, answer in every_call():
            for other, arguments, other_answer in every_call():
                self.assertEqual(first(**given), answer)
                self.assertEqual(other(**arguments), other_answer)

    def test_prints_nothing(self):
        shown, told = io.StringIO(), io.StringIO()
        with contextlib.redirect_stdout(shown), contextlib.redirect_stderr(told):
            for call, given, answer in every_call():
                call(**given)
        self.assertEqual(shown.getvalue() + told.getvalue(), "")


class Files(unittest.TestCase):
    def test_imports_nothing(self):
        for path in PACKAGE.glob("*.py"):
            tree = ast.parse(path.read_text())
            imports = [x for x in ast.walk(tree) if isinstance(x, (ast.Import, ast.ImportFrom))]
            self.assertEqual(imports, [], path.name)

    def test_signs_and_sizes(self):
        for path in PACKAGE.glob("*.py"):
            text = path.read_bytes().decode("ascii")
            self.assertTrue(all(sign == "\n" or " " <= sign <= "~" for sign in text))
            self.assertLessEqual(len(text.splitlines()), 400)
            self.assertLessEqual(max(len(line) for line in text.splitlines()), 120)
            for node in ast.walk(ast.parse(text)):
                if isinstance(node, ast.FunctionDef):
                    self.assertLessEqual(node.end_lineno - node.lineno + 1, 40, node.name)


if __name__ == "__main__":
    unittest.main()
