"""The interface: the calls' names and arguments as they stand in the document, and nothing printed."""

import contextlib
import inspect
import io
import unittest

from doubletables import tables
from tests.calls import ARGUMENTS, is_list


class Interface(unittest.TestCase):
    def test_names_and_arguments(self):
        for name, arguments in ARGUMENTS.items():
            self.assertEqual(list(inspect.signature(getattr(tables, name)).parameters), arguments)

    def test_answers_are_lists_of_whole_numbers_and_nothing_is_printed(self):
        for given in (0, 1, 2**64 - 1):
            for name, arguments in ARGUMENTS.items():
                values = [[given] if is_list(name, argument) else given for argument in arguments]
                printed = io.StringIO()
                with contextlib.redirect_stdout(printed), contextlib.redirect_stderr(printed):
                    answer = getattr(tables, name)(*values)
                self.assertEqual(printed.getvalue(), "")
                self.assertIs(type(answer), list)
                self.assertTrue(all(type(number) is int for number in answer), (name, answer))


if __name__ == "__main__":
    unittest.main()
