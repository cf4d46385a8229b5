"""What several test files share."""

import copy
import unittest

from hushlink.errors import OutOfRange


class HushCase(unittest.TestCase):
    def assert_keeps(self, function, *arguments, **named):
        """Call the function; what it is passed must not change. Return its result."""
        before = copy.deepcopy((arguments, named))
        result = function(*arguments, **named)
        self.assertEqual((arguments, named), before, function.__name__)
        return result

    def assert_fresh(self, function, *arguments):
        """Changing a returned list must change neither what was passed nor a second call."""
        before = copy.deepcopy(arguments)
        expected = copy.deepcopy(function(*arguments))
        spoil(function(*arguments))
        self.assertEqual(arguments, before, function.__name__)
        self.assertEqual(function(*arguments), expected, function.__name__)

    def assert_out_of_range(self, function, *arguments, **named):
        with self.assertRaises(OutOfRange):
            function(*arguments, **named)


def spoil(value):
    """Change a list, and all lists within it."""
    if isinstance(value, tuple):
        for item in value:
            spoil(item)
    if isinstance(value, list):
        for item in value:
            spoil(item)
        value.append("spoiled")
        value[0] = "spoiled"


def some_bytes(count, seed=1):
    """Return count bytes that look irregular and are always the same."""
    data = []
    number = seed * 7919 + 12345
    for _ in range(count):
        number = (number * 1103515245 + 12345) % 2 ** 31
        data.append(number // 65536 % 256)
    return data


def some_number(bits, seed=1):
    """Return a number of at most so many bits that is always the same."""
    return int.from_bytes(bytes(some_bytes(bits // 8 + 1, seed)), "little") % 2 ** bits
