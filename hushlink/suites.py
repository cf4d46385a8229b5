"""The suites: the operations on keys that all later parts work with (points 100 to 102)."""

from hushlink.checks import need_length, need_range
from hushlink.digest import digest
from hushlink.errors import Malformed, NotAuthentic, Refused
from hushlink.exchange import agree, is_weak, public_key
from hushlink.field import field_from_bytes, field_to_bytes
from hushlink.keyed import keyed
from hushlink.octets import combine, equal, from_little, to_big, to_little
from hushlink.sealing import nonce_of, open_sealed, seal
from hushlink.small import (POWER_MODULUS, small_digest, small_exponent, small_power, small_stream,
                            small_tag)

MOST_BYTES = 1048576
MOST_KEY = 1024
MOST_NUMBER = (1 << 64) - 1
SMALL_BASE = 43
# A number to this power is L - 1, unless it is 0 or the square of another number.
SMALL_HALF = 85070591730234615865843651857942052863


def need_sealing(suite, key, number, data):
    """Raise OutOfRange unless these arguments of seal and open_sealed are within their bounds."""
    need_length(key, suite.key_size, suite.key_size)
    need_range(number, 0, MOST_NUMBER)
    need_length(data, 0, MOST_BYTES)


class StandardSuite:
    """The curve exchange, the stream cipher with its tag, and the digest."""

    def __init__(self):
        self.name = "25519_ChaChaPoly_SHA256"
        self.key_size = 32
        self.tag_size = 16
        self.digest_size = 32
        self.block_size = 64

    def public(self, secret):
        """Return the public key of a secret key."""
        return public_key(secret)

    def is_weak(self, public):
        """Return True if the public key must not be used, otherwise False."""
        return not has_one_form(public) or is_weak(public)

    def exchange(self, secret, public):
        """Return the shared secret, or raise Malformed if the public key is weak."""
        need_length(secret, self.key_size, self.key_size)
        if not has_one_form(public):
            raise Malformed("the public key is not written as its u-coordinate is")
        try:
            return agree(secret, public)
        except Refused:
            raise Malformed("the public key is weak") from None

    def digest(self, data):
        """Return the digest of the data."""
        return digest(data)

    def keyed(self, key, data):
        """Return the keyed digest of the data."""
        need_length(key, 0, MOST_KEY)
        return keyed(key, data)

    def seal(self, key, number, data, text):
        """Return the sealed text."""
        need_sealing(self, key, number, data)
        return seal(key, nonce_of(number), data, text)

    def open_sealed(self, key, number, data, sealed):
        """Return the text of something sealed, or raise NotAuthentic."""
        need_sealing(self, key, number, data)
        return open_sealed(key, nonce_of(number), data, sealed)


def has_one_form(public):
    """Return True if the bytes are those that the u-coordinate is written in."""
    return equal(field_to_bytes(field_from_bytes(public)), public)


class SmallSuite:
    """A small suite for experiments. It does not protect anything."""

    def __init__(self):
        self.name = "127_Mix_Mix"
        self.key_size = 16
        self.tag_size = 8
        self.digest_size = 16
        self.block_size = 16

    def public(self, secret):
        """Return the public key of a secret key."""
        need_length(secret, self.key_size, self.key_size)
        return to_little(small_power(SMALL_BASE, small_exponent(secret)), self.key_size)

    def is_weak(self, public):
        """Return True if the public key must not be used, otherwise False."""
        need_length(public, self.key_size, self.key_size)
        number = from_little(public)
        if number >= POWER_MODULUS:
            return True
        return small_power(number, SMALL_HALF) != POWER_MODULUS - 1

    def exchange(self, secret, public):
        """Return the shared secret, or raise Malformed if the public key is weak."""
        need_length(secret, self.key_size, self.key_size)
        if self.is_weak(public):
            raise Malformed("the public key is weak")
        shared = small_power(from_little(public), small_exponent(secret))
        return to_little(shared, self.key_size)

    def digest(self, data):
        """Return the digest of the data."""
        return small_digest(data)

    def keyed(self, key, data):
        """Return the keyed digest of the data."""
        need_length(key, 0, MOST_KEY)
        return small_digest([1] + to_big(len(key), 4) + key + data)

    def seal(self, key, number, data, text):
        """Return the sealed text."""
        need_sealing(self, key, number, data)
        need_length(text, 0, MOST_BYTES)
        combined = combine(text, small_stream(key, number, len(text)))
        return combined + small_tag(key, number, data, combined)

    def open_sealed(self, key, number, data, sealed):
        """Return the text of something sealed, or raise NotAuthentic."""
        need_sealing(self, key, number, data)
        need_length(sealed, 0, MOST_BYTES + self.tag_size)
        if len(sealed) < self.tag_size:
            raise NotAuthentic("there is no tag")
        combined = sealed[:-self.tag_size]
        if not equal(sealed[-self.tag_size:], small_tag(key, number, data, combined)):
            raise NotAuthentic("the tag differs")
        return combine(combined, small_stream(key, number, len(combined)))
