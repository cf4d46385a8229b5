"""The digest of a message (points 40, 46 and 47)."""

from hushlink.checks import need_length, need_range
from hushlink.octets import cut, to_big, zeros
from hushlink.rounds import compress, start_words
from hushlink.words import bytes_big

MOST_BYTES = 1048576
BLOCK_SIZE = 64


def padding(length):
    """Return the bytes that are appended to a message of this length."""
    need_range(length, 0, MOST_BYTES)
    # The byte 128 and the number take 9 of the 64 bytes.
    return [128] + zeros((55 - length) & 63) + to_big(8 * length, 8)


def digest(data):
    """Return the digest of a message."""
    return digest_parts([data])


def digest_parts(parts):
    """Return the digest of the joined parts."""
    need_range(sum([len(part) for part in parts]), 0, MOST_BYTES)
    digester = Digester()
    for part in parts:
        digester.add(part)
    return digester.told()


def compress_all(words, data):
    """Return the words after all blocks of the data, which has only whole ones."""
    mixed = words
    for piece in cut(data, BLOCK_SIZE):
        mixed = compress(mixed, piece)
    return mixed


class Digester:
    """Takes a message in pieces, and tells the digest of what it has so far."""

    def __init__(self):
        self.words = start_words()
        self.rest = []
        self.taken = 0

    def add(self, data):
        """Add a piece."""
        need_length(data, 0, MOST_BYTES - self.taken)
        joined = self.rest + data
        whole = len(joined) - len(joined) % BLOCK_SIZE
        self.words = compress_all(self.words, joined[:whole])
        self.rest = joined[whole:]
        self.taken += len(data)

    def told(self):
        """Return the digest of all that was added."""
        return bytes_big(compress_all(self.words, self.rest + padding(self.taken)))

    def length(self):
        """Return how many bytes were added."""
        return self.taken

    def twin(self):
        """Return an independent copy."""
        other = Digester()
        other.words = list(self.words)
        other.rest = list(self.rest)
        other.taken = self.taken
        return other

    def state(self):
        """Return the words after all whole blocks, the bytes behind them, and the length."""
        return tuple(self.words), tuple(self.rest), self.taken
