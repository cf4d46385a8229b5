"""The tag of a text under a one-time key (points 60 and 67 to 70)."""

from hushlink.checks import need_length, need_range
from hushlink.octets import cut, from_little, to_little

MOST_BYTES = 1048576
KEY_SIZE = 32
PIECE_SIZE = 16
PRIME = (1 << 130) - 5
MOST_NUMBER = (1 << 130) - 1
LIMB_BITS = 26
LIMB_MASK = (1 << 26) - 1
TAG_MASK = (1 << 128) - 1
# The bits of r that stay, the bytes in the little order.
CLAMP_MASK = 0x0ffffffc0ffffffc0ffffffc0fffffff


def clamp(data):
    """Return the number r of 16 bytes."""
    need_length(data, PIECE_SIZE, PIECE_SIZE)
    return from_little(data) & CLAMP_MASK


def tag(key, text):
    """Return the tag, computed with limbs."""
    need_length(key, KEY_SIZE, KEY_SIZE)
    need_length(text, 0, MOST_BYTES)
    tagger = Tagger(key)
    tagger.add(text)
    return tagger.told()


def plain_tag(key, text):
    """Return the same tag, computed with numbers modulo P."""
    need_length(key, KEY_SIZE, KEY_SIZE)
    need_length(text, 0, MOST_BYTES)
    factor = clamp(key[:16])
    total = 0
    for piece in cut(text, PIECE_SIZE):
        total = (total + piece_number(piece)) * factor % PRIME
    return closed_sum(total, from_little(key[16:]))


def piece_number(piece):
    """Return the number of a piece of the text."""
    return from_little(piece + [1])


def closed_sum(total, last):
    """Return the tag of the sum and the number s."""
    return to_little((total + last) & TAG_MASK, 16)


def to_limbs(number):
    """Return the limbs of a number."""
    need_range(number, 0, MOST_NUMBER)
    return [(number >> (LIMB_BITS * k)) & LIMB_MASK for k in range(5)]


def from_limbs(limbs):
    """Return the value of five limbs."""
    need_length(limbs, 5, 5)
    return sum([limb << (LIMB_BITS * k) for k, limb in enumerate(limbs)])


def carry_limbs(limbs):
    """Return the carried limbs."""
    need_length(limbs, 5, 5)
    a, b, c, d, e = limbs
    b += a >> LIMB_BITS
    c += b >> LIMB_BITS
    d += c >> LIMB_BITS
    e += d >> LIMB_BITS
    # 2 ** 130 is 5 modulo P, so what leaves at the top comes back five times.
    a = (a & LIMB_MASK) + 5 * (e >> LIMB_BITS)
    b = (b & LIMB_MASK) + (a >> LIMB_BITS)
    return [a & LIMB_MASK, b, c & LIMB_MASK, d & LIMB_MASK, e & LIMB_MASK]


def multiply_limbs(first, second):
    """Return the carried limbs of the product."""
    need_length(first, 5, 5)
    need_length(second, 5, 5)
    a, b, c, d, e = first
    p, q, r, s, t = second
    # Written out, since this runs once for every 16 bytes of a text.
    return carry_limbs([
        a * p + 5 * (b * t + c * s + d * r + e * q),
        a * q + b * p + 5 * (c * t + d * s + e * r),
        a * r + b * q + c * p + 5 * (d * t + e * s),
        a * s + b * r + c * q + d * p + 5 * (e * t),
        a * t + b * s + c * r + d * q + e * p,
    ])


class Tagger:
    """Takes a text in pieces, and tells the tag of what it has so far."""

    def __init__(self, key):
        need_length(key, KEY_SIZE, KEY_SIZE)
        self.factor = to_limbs(clamp(key[:16]))
        self.last = from_little(key[16:])
        self.total = to_limbs(0)
        self.rest = []

    def after(self, data):
        """Return the limbs of the sum after the pieces of the data."""
        total = self.total
        for piece in cut(data, PIECE_SIZE):
            added = to_limbs(piece_number(piece))
            total = multiply_limbs([one + other for one, other in zip(total, added)], self.factor)
        return total

    def add(self, text):
        """Add a piece of the text."""
        need_length(text, 0, MOST_BYTES)
        joined = self.rest + text
        whole = len(joined) - len(joined) % PIECE_SIZE
        self.total = self.after(joined[:whole])
        self.rest = joined[whole:]

    def told(self):
        """Return the tag of all that was added."""
        # Carried limbs may still stand for P or more.
        return closed_sum(from_limbs(self.after(self.rest)) % PRIME, self.last)

    def twin(self):
        """Return an independent copy."""
        other = Tagger([0] * KEY_SIZE)
        other.factor = list(self.factor)
        other.last = self.last
        other.total = list(self.total)
        other.rest = list(self.rest)
        return other
