"""What the interface says of every function."""

import ast
import inspect
import io
import pathlib
import unittest
from contextlib import redirect_stderr, redirect_stdout

import gridsteps
from gridsteps import desk

CALLS = [
    (desk.det, ["n", "b"], [(2, [1, 2, 3, 4]), (2, [0] * 4), (1, [1001]), (0, [])]),
    (desk.same, ["n", "a", "b"], [
        (2, [2, 1, 0, 3], [2, 4, 2, 1]), (2, [2, 1, 0, 3], [1, 0, 0, 6]),
        (1, [0], [1]), (1, [1], [1001]), (0, [], []),
    ]),
    (desk.short, ["n", "b"], [
        (2, [19, 191, 30, 204]), (1, [-7]), (2, [0] * 4), (1, [1001]), (0, []),
    ]),
    (desk.minima, ["n", "b"], [
        (2, [19, 191, 30, 204]), (1, [-7]), (2, [0] * 4), (1, [1001]), (0, []),
    ]),
    (desk.reduce, ["n", "b"], [
        (2, [19, 191, 30, 204]), (1, [-7]), (2, [0] * 4), (1, [1001]), (0, []),
    ]),
    (desk.test, ["n", "b"], [
        (2, [19, 191, 30, 204]), (1, [-7]), (2, [0] * 4), (1, [1001]), (0, []),
    ]),
    (desk.near, ["n", "b", "t"], [
        (2, [19, 191, 30, 204], [100, -7]), (1, [-7], [3]), (2, [0] * 4, [0, 0]),
        (1, [1001], [3]), (1, [7], [1001]), (0, [], []),
    ]),
    (desk.count, ["n", "r", "b"], [
        (2, 400, [19, 191, 30, 204]), (1, 49, [-7]), (2, 0, [1, 0, 0, 1]),
        (2, 1, [0] * 4), (1, 1, [1001]), (1, 401, [1]), (1, -1, [1]), (0, 1, []),
    ]),
]


class Interface(unittest.TestCase):

    def test_names_of_what_is_handed_in(self):
        for call, names, handed in CALLS:
            self.assertEqual(list(inspect.signature(call).parameters), names)
            self.assertEqual(call.__module__, "gridsteps.desk")
            for values in handed:
                by_name = dict(zip(names, values))
                self.assertEqual(call(**by_name), call(*values))

    def test_a_list_of_whole_numbers_is_given_back(self):
        for call, names, handed in CALLS:
            for values in handed:
                answer = call(*values)
                self.assertIs(type(answer), list)
                for number in answer:
                    self.assertIs(type(number), int)

    def test_nothing_is_printed(self):
        shown = io.StringIO()
        with redirect_stdout(shown), redirect_stderr(shown):
            for call, names, handed in CALLS:
                for values in handed:
                    call(*values)
        self.assertEqual(shown.getvalue(), "")

    def test_nothing_but_the_package_is_imported(self):
        folder = pathlib.Path(gridsteps.__file__).parent
        files = sorted(folder.rglob("*.py"))
        self.assertGreater(len(files), 1)
        for file in files:
            for node in ast.walk(ast.parse(file.read_text())):
                self.assertNotIsInstance(node, ast.Import)
                if isinstance(node, ast.ImportFrom):
                    self.assertTrue(node.module.startswith("gridsteps."))


if __name__ == "__main__":
    unittest.main()
