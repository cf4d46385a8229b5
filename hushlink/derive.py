"""Keys derived from secrets (points 40 and 50)."""

from hushlink.checks import need_length, need_range
from hushlink.digest import MOST_BYTES
from hushlink.keyed import MOST_KEYED_BYTES, key_block, keyed, keyed_parts

PART_SIZE = 32
MOST_INFORMATION = 1024
MOST_SIZE = 8160


def extract(salt, secret):
    """Return the 32 bytes of the keyed digest of a secret under a salt."""
    return keyed(salt, secret)


def expand(key, information, size):
    """Return size bytes that are made from a key and the information."""
    need_length(key, PART_SIZE, MOST_BYTES)
    need_length(information, 0, MOST_INFORMATION)
    need_range(size, 0, MOST_SIZE)
    # The key block has the same keyed digests as the key; so a long key is
    # digested only once.
    short = key_block(key)
    data = []
    part = []
    count = 0
    while len(data) < size:
        count += 1
        part = keyed_parts(short, [part, information, [count]])
        data.extend(part)
    return data[:size]


def derive(salt, secret, information, size):
    """Return the expanded bytes of what is extracted."""
    need_length(salt, 0, MOST_BYTES)
    need_length(secret, 0, MOST_KEYED_BYTES)
    need_length(information, 0, MOST_INFORMATION)
    need_range(size, 0, MOST_SIZE)
    return expand(extract(salt, secret), information, size)
