"""What the tests have in common."""

import copy
import unittest

from formkeeper.errors import FormkeeperError


class ProgramTest(unittest.TestCase):
    """Calls functions of the program and looks at what they do with their arguments."""

    maxDiff = 2000

    def called(self, function, *arguments):
        """Returns what the function returns; its arguments are the same behind the call (00.1)."""
        before = copy.deepcopy(arguments)
        try:
            return function(*arguments)
        finally:
            self.assertEqual(strictly(arguments), strictly(before))

    def assert_gives(self, expected, function, *arguments):
        """The function returns a value that is equal, and of the same kinds throughout."""
        self.assertEqual(strictly(self.called(function, *arguments)), strictly(expected))

    def assert_raises_at(self, error_class, place, function, *arguments):
        """The function raises just this error at this place."""
        error = None
        try:
            result = self.called(function, *arguments)
        except FormkeeperError as raised:
            error = raised
        if error is None:
            self.fail(f"{shortened(arguments)} gave {shortened(result)}")
        self.assertEqual((error_class, place), (error.__class__, error.place), shortened(arguments))
        self.assertIs(int, error.place.__class__)
        self.assertEqual(error_class.__name__, error.name)


def shortened(value):
    shown = repr(value)
    return shown if len(shown) <= 300 else shown[:300] + ".."


def strictly(value):
    """Returns something that tells True from 1, lists from tuples, and the order of keys."""
    if isinstance(value, (list, tuple)):
        return value.__class__.__name__, [strictly(item) for item in value]
    if isinstance(value, dict):
        return "dict", [(strictly(key), strictly(item)) for key, item in value.items()]
    if value is None or isinstance(value, (bool, int, str)):
        return value.__class__.__name__, value
    return value.__class__.__name__, strictly(vars(value)) if hasattr(value, "__dict__") else repr(value)
