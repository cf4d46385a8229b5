"""The keyed digest (points 40, 48 and 49)."""

from hushlink.checks import need_length, need_range
from hushlink.digest import BLOCK_SIZE, MOST_BYTES, Digester, digest, digest_parts
from hushlink.octets import combine, equal, zeros

# The inner block comes before the message, and both must fit in one digest.
MOST_KEYED_BYTES = 1048512


def key_block(key):
    """Return the 64 bytes of the key or its digest, with zeros appended."""
    need_length(key, 0, MOST_BYTES)
    short = key
    if len(key) > BLOCK_SIZE:
        short = digest(key)
    return short + zeros(BLOCK_SIZE - len(short))


def keyed(key, data):
    """Return the keyed digest of a message."""
    return keyed_parts(key, [data])


def keyed_parts(key, parts):
    """Return the keyed digest of the joined parts."""
    need_length(key, 0, MOST_BYTES)
    need_range(sum([len(part) for part in parts]), 0, MOST_KEYED_BYTES)
    keyer = Keyer(key)
    for part in parts:
        keyer.add(part)
    return keyer.told()


def is_keyed(key, data, tag):
    """Return True if the tag is the keyed digest, otherwise False."""
    return equal(keyed(key, data), tag)


class Keyer:
    """Takes a message in pieces, and tells the keyed digest of what it has so far."""

    def __init__(self, key):
        padded = key_block(key)
        self.outer = combine(padded, [92] * BLOCK_SIZE)
        self.inner = Digester()
        self.inner.add(combine(padded, [54] * BLOCK_SIZE))

    def add(self, data):
        """Add a piece."""
        # The inner digester also counts the inner block, so its own limit is
        # the one of the keyed digest.
        self.inner.add(data)

    def told(self):
        """Return the keyed digest of all that was added."""
        return digest_parts([self.outer, self.inner.told()])

    def twin(self):
        """Return an independent copy."""
        other = Keyer([])
        other.outer = list(self.outer)
        other.inner = self.inner.twin()
        return other
