"""Words of 32 bits (point 9)."""

from hushlink.errors import OutOfRange
from hushlink.octets import cut, from_big, from_little, to_big, to_little

WORD_MASK = 4294967295


def add_words(first, second):
    """Return the sum modulo 4294967296."""
    return (first + second) & WORD_MASK


def subtract_words(first, second):
    """Return the difference modulo 4294967296."""
    return (first - second) & WORD_MASK


def rotate_left(word, count):
    """Return the word with each bit moved count places up, around the top."""
    return (word << count | word >> (32 - count)) & WORD_MASK


def rotate_right(word, count):
    """Return the word with each bit moved count places down, around the bottom."""
    return (word >> count | word << (32 - count)) & WORD_MASK


def words_little(data):
    """Return the words of the bytes, each with its lowest byte first."""
    return [from_little(piece) for piece in word_pieces(data)]


def words_big(data):
    """Return the words of the bytes, each with its highest byte first."""
    return [from_big(piece) for piece in word_pieces(data)]


def word_pieces(data):
    """Return the pieces of four bytes."""
    if len(data) & 3 != 0:
        raise OutOfRange("the length is not a multiple of 4")
    return cut(data, 4)


def bytes_little(words):
    """Return the bytes of the words, the lowest byte of each first."""
    return [byte for word in words for byte in to_little(word, 4)]


def bytes_big(words):
    """Return the bytes of the words, the highest byte of each first."""
    return [byte for word in words for byte in to_big(word, 4)]
