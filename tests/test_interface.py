"""The interface: the calls' names and arguments as they stand in the document, and nothing printed."""

import contextlib
import inspect
import io
import unittest

from doubletables import tables

ARGUMENTS = {
    "step": ["which", "x", "y", "z"],
    "sum_of": ["m", "n", "a", "b"],
    "less": ["m", "n", "a", "b"],
    "scaled": ["m", "n", "x", "a"],
    "flipped": ["m", "n", "a"],
    "rows": ["m", "n", "a", "p"],
    "same": ["m", "n", "a", "b"],
    "times": ["m", "k", "n", "a", "b"],
    "rest": ["m", "k", "n", "a", "x", "b"],
    "trace": ["n", "a"],
    "norms": ["m", "n", "a"],
    "lu": ["n", "a"],
    "det": ["n", "a"],
    "solve": ["n", "m", "a", "b"],
    "refined": ["n", "m", "many", "a", "b"],
    "inverse": ["n", "a"],
    "chol": ["n", "a"],
    "qr": ["m", "n", "a"],
    "least": ["m", "n", "k", "a", "b"],
    "power": ["n", "k", "a"],
    "exp": ["n", "terms", "halvings", "a"],
    "poly": ["n", "a", "c"],
    "own": ["n", "a"],
    "jacobi": ["n", "sweeps", "a"],
    "ordered": ["n", "d", "v"],
}
LISTS = {"a", "b", "c", "d", "p", "v"}


class Interface(unittest.TestCase):
    def test_names_and_arguments(self):
        for name, arguments in ARGUMENTS.items():
            self.assertEqual(list(inspect.signature(getattr(tables, name)).parameters), arguments)

    def test_answers_are_lists_of_whole_numbers_and_nothing_is_printed(self):
        for given in (0, 1, 2**64 - 1):
            for name, arguments in ARGUMENTS.items():
                lists = LISTS | ({"x"} if name == "rest" else set())
                values = [[given] if argument in lists else given for argument in arguments]
                printed = io.StringIO()
                with contextlib.redirect_stdout(printed), contextlib.redirect_stderr(printed):
                    answer = getattr(tables, name)(*values)
                self.assertEqual(printed.getvalue(), "")
                self.assertIs(type(answer), list)
                self.assertTrue(all(type(number) is int for number in answer), (name, answer))


if __name__ == "__main__":
    unittest.main()
