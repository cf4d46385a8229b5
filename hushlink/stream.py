"""The stream cipher (points 60 to 66)."""

from hushlink.checks import need_length, need_range
from hushlink.errors import OutOfRange
from hushlink.octets import combine
from hushlink.words import (add_words, bytes_little, rotate_left, rotate_right, subtract_words,
                            words_little)

KEY_SIZE = 32
NONCE_SIZE = 12
BLOCK_SIZE = 64
MOST_BYTES = 1048576
MOST_COUNTER = 4294967295
FIRST_WORDS = (1634760805, 857760878, 2036477234, 1797285236)
QUARTERS = (
    (0, 4, 8, 12), (1, 5, 9, 13), (2, 6, 10, 14), (3, 7, 11, 15),
    (0, 5, 10, 15), (1, 6, 11, 12), (2, 7, 8, 13), (3, 4, 9, 14),
)


def quarter_round(a, b, c, d):
    """Return the four words after the quarter round."""
    a = add_words(a, b)
    d = rotate_left(d ^ a, 16)
    c = add_words(c, d)
    b = rotate_left(b ^ c, 12)
    a = add_words(a, b)
    d = rotate_left(d ^ a, 8)
    c = add_words(c, d)
    b = rotate_left(b ^ c, 7)
    return a, b, c, d


def quarter_round_back(a, b, c, d):
    """Return the four words from which the quarter round returns these."""
    b = rotate_right(b, 7) ^ c
    c = subtract_words(c, d)
    d = rotate_right(d, 8) ^ a
    a = subtract_words(a, b)
    b = rotate_right(b, 12) ^ c
    c = subtract_words(c, d)
    d = rotate_right(d, 16) ^ a
    a = subtract_words(a, b)
    return a, b, c, d


def start_state(key, counter, nonce):
    """Return the 16 words of the start state."""
    need_length(key, KEY_SIZE, KEY_SIZE)
    need_range(counter, 0, MOST_COUNTER)
    need_length(nonce, NONCE_SIZE, NONCE_SIZE)
    return list(FIRST_WORDS) + words_little(key) + [counter] + words_little(nonce)


def double_round(state):
    """Return the 16 words after a double round."""
    need_length(state, 16, 16)
    words = list(state)
    for i, j, k, m in QUARTERS:
        words[i], words[j], words[k], words[m] = quarter_round(
            words[i], words[j], words[k], words[m])
    return words


def double_round_back(state):
    """Return the 16 words from which the double round returns these."""
    need_length(state, 16, 16)
    words = list(state)
    for i, j, k, m in QUARTERS[::-1]:
        words[i], words[j], words[k], words[m] = quarter_round_back(
            words[i], words[j], words[k], words[m])
    return words


def block(key, counter, nonce):
    """Return the 64 bytes of a block."""
    start = start_state(key, counter, nonce)
    words = start
    for _ in range(10):
        words = double_round(words)
    return bytes_little([add_words(one, other) for one, other in zip(words, start)])


def key_stream(key, nonce, size, *, counter=0):
    """Return the first size bytes of the key stream that begins at counter."""
    need_length(key, KEY_SIZE, KEY_SIZE)
    need_length(nonce, NONCE_SIZE, NONCE_SIZE)
    need_range(size, 0, MOST_BYTES)
    return StreamReader(key, nonce, counter=counter).take(size)


def apply_stream(key, nonce, text, *, counter=0):
    """Return the text combined with the key stream that begins at counter."""
    need_length(key, KEY_SIZE, KEY_SIZE)
    need_length(nonce, NONCE_SIZE, NONCE_SIZE)
    need_length(text, 0, MOST_BYTES)
    return StreamReader(key, nonce, counter=counter).apply(text)


class StreamReader:
    """Returns the key stream in pieces."""

    def __init__(self, key, nonce, *, counter=0):
        need_length(key, KEY_SIZE, KEY_SIZE)
        need_length(nonce, NONCE_SIZE, NONCE_SIZE)
        need_range(counter, 0, MOST_COUNTER)
        self.key = list(key)
        self.nonce = list(nonce)
        self.counter = counter
        self.taken = 0

    def ahead(self, size):
        """Return the next size bytes without taking them."""
        first = self.taken // BLOCK_SIZE
        end = (self.taken + size + BLOCK_SIZE - 1) // BLOCK_SIZE
        # Checked before the first block is made, which may be far away.
        if size < 0 or self.counter + end - 1 > MOST_COUNTER:
            raise OutOfRange("the key stream does not have so many bytes")
        data = []
        for number in range(first, end):
            data.extend(block(self.key, self.counter + number, self.nonce))
        skipped = self.taken - first * BLOCK_SIZE
        return data[skipped:skipped + size]

    def take(self, size):
        """Return the next size bytes of the key stream."""
        data = self.ahead(size)
        self.taken += size
        return data

    def apply(self, text):
        """Return the text combined with the next bytes of the key stream."""
        need_length(text, 0, MOST_BYTES)
        combined = combine(text, self.ahead(len(text)))
        self.taken += len(text)
        return combined

    def position(self):
        """Return how many bytes were taken."""
        return self.taken

    def twin(self):
        """Return a new reader at the same position."""
        other = StreamReader(self.key, self.nonce, counter=self.counter)
        other.taken = self.taken
        return other
