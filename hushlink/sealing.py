"""Sealing and opening with a key and a nonce (points 60 and 71 to 73)."""

from hushlink.checks import need_length, need_range
from hushlink.errors import NotAuthentic
from hushlink.octets import equal, to_little, zeros
from hushlink.stream import KEY_SIZE, MOST_BYTES, NONCE_SIZE, apply_stream, block
from hushlink.tag import Tagger

TAG_SIZE = 16
MOST_NONCE_NUMBER = (1 << 64) - 1


def one_time_key(key, nonce):
    """Return the one-time key of a key and a nonce."""
    return block(key, 0, nonce)[:32]


def filled(data):
    """Return the data with zeros up to a multiple of 16."""
    return data + zeros(-len(data) & 15)


def both_lengths(data, ciphertext):
    """Return the 16 bytes that end the text to be tagged."""
    return to_little(len(data), 8) + to_little(len(ciphertext), 8)


def tagged_text(data, ciphertext):
    """Return the text to be tagged."""
    need_length(data, 0, MOST_BYTES)
    need_length(ciphertext, 0, MOST_BYTES)
    return filled(data) + filled(ciphertext) + both_lengths(data, ciphertext)


def sealing_tag(key, nonce, data, ciphertext):
    """Return the tag of the associated data and the ciphertext."""
    # In pieces: the text to be tagged may be longer than a text may be.
    tagger = Tagger(one_time_key(key, nonce))
    tagger.add(filled(data))
    tagger.add(filled(ciphertext))
    tagger.add(both_lengths(data, ciphertext))
    return tagger.told()


def need_parts(key, nonce, data):
    """Raise OutOfRange unless the key, the nonce and the data have their lengths."""
    need_length(key, KEY_SIZE, KEY_SIZE)
    need_length(nonce, NONCE_SIZE, NONCE_SIZE)
    need_length(data, 0, MOST_BYTES)


def seal(key, nonce, data, text):
    """Return the sealed text, its tag behind it."""
    need_parts(key, nonce, data)
    need_length(text, 0, MOST_BYTES)
    ciphertext = apply_stream(key, nonce, text, counter=1)
    return ciphertext + sealing_tag(key, nonce, data, ciphertext)


def open_sealed(key, nonce, data, sealed):
    """Return the text of something sealed, or raise NotAuthentic."""
    need_parts(key, nonce, data)
    need_length(sealed, 0, MOST_BYTES + TAG_SIZE)
    if len(sealed) < TAG_SIZE:
        raise NotAuthentic("there is no tag")
    ciphertext = sealed[:-TAG_SIZE]
    if not equal(sealed[-TAG_SIZE:], sealing_tag(key, nonce, data, ciphertext)):
        raise NotAuthentic("the tag differs")
    return apply_stream(key, nonce, ciphertext, counter=1)


def nonce_of(number):
    """Return the nonce of a number."""
    need_range(number, 0, MOST_NONCE_NUMBER)
    return zeros(4) + to_little(number, 8)
