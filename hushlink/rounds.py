"""The words and rounds of the digest (points 41 to 45)."""

from hushlink.checks import need_length
from hushlink.words import WORD_MASK, add_words, words_big

# Written out, since taking the roots of the primes again for each block would
# take longer than its rounds.
ROUND_CONSTANTS = (
    0x428a2f98, 0x71374491, 0xb5c0fbcf, 0xe9b5dba5, 0x3956c25b, 0x59f111f1, 0x923f82a4, 0xab1c5ed5,
    0xd807aa98, 0x12835b01, 0x243185be, 0x550c7dc3, 0x72be5d74, 0x80deb1fe, 0x9bdc06a7, 0xc19bf174,
    0xe49b69c1, 0xefbe4786, 0x0fc19dc6, 0x240ca1cc, 0x2de92c6f, 0x4a7484aa, 0x5cb0a9dc, 0x76f988da,
    0x983e5152, 0xa831c66d, 0xb00327c8, 0xbf597fc7, 0xc6e00bf3, 0xd5a79147, 0x06ca6351, 0x14292967,
    0x27b70a85, 0x2e1b2138, 0x4d2c6dfc, 0x53380d13, 0x650a7354, 0x766a0abb, 0x81c2c92e, 0x92722c85,
    0xa2bfe8a1, 0xa81a664b, 0xc24b8b70, 0xc76c51a3, 0xd192e819, 0xd6990624, 0xf40e3585, 0x106aa070,
    0x19a4c116, 0x1e376c08, 0x2748774c, 0x34b0bcb5, 0x391c0cb3, 0x4ed8aa4a, 0x5b9cca4f, 0x682e6ff3,
    0x748f82ee, 0x78a5636f, 0x84c87814, 0x8cc70208, 0x90befffa, 0xa4506ceb, 0xbef9a3f7, 0xc67178f2,
)
START_WORDS = (
    0x6a09e667, 0xbb67ae85, 0x3c6ef372, 0xa54ff53a, 0x510e527f, 0x9b05688c, 0x1f83d9ab, 0x5be0cd19,
)


def choose(x, y, z):
    """Return the bits of y where x has a 1, and those of z where it has a 0."""
    return (x & y) ^ (~x & z)


def majority(x, y, z):
    """Return the bits that at least two of the words have."""
    return (x & y) ^ (x & z) ^ (y & z)


# The next four functions run some hundred times for each block. A word that
# stands twice, side by side, is rotated by one shift.


def sum_zero(x):
    """Return the word rotated right by 2, by 13 and by 22, combined."""
    twice = (x << 32) | x
    return ((twice >> 2) ^ (twice >> 13) ^ (twice >> 22)) & WORD_MASK


def sum_one(x):
    """Return the word rotated right by 6, by 11 and by 25, combined."""
    twice = (x << 32) | x
    return ((twice >> 6) ^ (twice >> 11) ^ (twice >> 25)) & WORD_MASK


def turn_zero(x):
    """Return the word rotated right by 7 and by 18 and shifted by 3, combined."""
    twice = (x << 32) | x
    return ((twice >> 7) ^ (twice >> 18) ^ (x >> 3)) & WORD_MASK


def turn_one(x):
    """Return the word rotated right by 17 and by 19 and shifted by 10, combined."""
    twice = (x << 32) | x
    return ((twice >> 17) ^ (twice >> 19) ^ (x >> 10)) & WORD_MASK


def round_constants():
    """Return the list of the 64 round constants."""
    return list(ROUND_CONSTANTS)


def start_words():
    """Return the list of the eight start words."""
    return list(START_WORDS)


def schedule(block):
    """Return the 64 words of the schedule of a block."""
    need_length(block, 64, 64)
    words = words_big(block)
    for i in range(16, 64):
        total = turn_one(words[i - 2]) + words[i - 7] + turn_zero(words[i - 15]) + words[i - 16]
        words.append(total & WORD_MASK)
    return words


def schedule_start(last):
    """Return the first 16 words of the schedule that ends with these 16."""
    need_length(last, 16, 16)
    words = list(last)
    for _ in range(48):
        # The recurrence gives the last word here from the one before the
        # first; solved for that one, it leads back by one index.
        before = words[15] - turn_one(words[13]) - words[8] - turn_zero(words[0])
        words = [before & WORD_MASK] + words[:15]
    return words


def round_step(words, added):
    """Return the eight words after a round with the input added."""
    need_length(words, 8, 8)
    a, b, c, d, e, f, g, h = words
    first = h + sum_one(e) + choose(e, f, g) + added
    second = sum_zero(a) + majority(a, b, c)
    return [(first + second) & WORD_MASK, a, b, c, (d + first) & WORD_MASK, e, f, g]


def round_back(words, added):
    """Return the eight words from which the round with this input returns words."""
    need_length(words, 8, 8)
    top, a, b, c, middle, e, f, g = words
    first = top - sum_zero(a) - majority(a, b, c)
    h = first - sum_one(e) - choose(e, f, g) - added
    return [a, b, c, (middle - first) & WORD_MASK, e, f, g, h & WORD_MASK]


def compress(words, block):
    """Return the eight words into which the block was compressed."""
    need_length(words, 8, 8)
    inputs = schedule(block)
    mixed = words
    for constant, word in zip(ROUND_CONSTANTS, inputs):
        mixed = round_step(mixed, add_words(constant, word))
    return [add_words(one, other) for one, other in zip(words, mixed)]
