"""Keys that count their numbers, and values derived from a chain (points 103 and 104)."""

from hushlink.checks import need_length
from hushlink.errors import Exhausted

LAST_NUMBER = (1 << 64) - 1


class NumberedKey:
    """A sealing key, or none, and the next number."""

    def __init__(self, suite, key):
        self.suite = suite
        self.key = None
        if key is not None:
            need_length(key, suite.key_size, suite.key_size)
            self.key = list(key)
        self.used = 0

    def seal(self, data, text):
        """Return the text sealed with the next number, or unchanged without a key."""
        if self.key is None:
            return list(text)
        self.need_number()
        sealed = self.suite.seal(self.key, self.used, data, text)
        self.used += 1
        return sealed

    def open_sealed(self, data, sealed):
        """Return the text opened with the next number, or unchanged without a key."""
        if self.key is None:
            return list(sealed)
        self.need_number()
        text = self.suite.open_sealed(self.key, self.used, data, sealed)
        self.used += 1
        return text

    def need_number(self):
        """Raise Exhausted if there is no number left."""
        if self.used == LAST_NUMBER:
            raise Exhausted("the key has no numbers left")

    def has_key(self):
        """Return True if there is a key, otherwise False."""
        return self.key is not None

    def number(self):
        """Return the next number."""
        return self.used

    def twin(self):
        """Return an independent copy, which is meant for reading."""
        other = NumberedKey(self.suite, self.key)
        other.used = self.used
        return other

    def state(self):
        """Return the key, or None, and the next number."""
        if self.key is None:
            return None, self.used
        return tuple(self.key), self.used


def two_values(suite, chain, data):
    """Return the first two values that are derived from the chain value and the data."""
    inner = suite.keyed(chain, data)
    first = suite.keyed(inner, [1])
    return first, suite.keyed(inner, first + [2])


def three_values(suite, chain, data):
    """Return the three values that are derived from the chain value and the data."""
    inner = suite.keyed(chain, data)
    first = suite.keyed(inner, [1])
    second = suite.keyed(inner, first + [2])
    return first, second, suite.keyed(inner, second + [3])
