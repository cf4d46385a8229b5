"""The transcript of a handshake (point 105)."""

from hushlink.errors import OutOfOrder
from hushlink.numbered import NumberedKey, three_values, two_values
from hushlink.octets import zeros


class Transcript:
    """A chain value, a hash and a key, into which both ends mix the same things."""

    def __init__(self, suite, label):
        codes = [ord(character) for character in label]
        if len(codes) <= suite.digest_size:
            start = codes + zeros(suite.digest_size - len(codes))
        else:
            start = suite.digest(codes)
        self.suite = suite
        self.chain = start
        self.hashed = list(start)
        self.cipher = NumberedKey(suite, None)
        self.parted = False

    def need_whole(self):
        """Raise OutOfOrder if the transcript was split."""
        if self.parted:
            raise OutOfOrder("the transcript was split")

    def hash_with(self, data):
        """Return the digest of the hash followed by the data."""
        return self.suite.digest(self.hashed + data)

    def keyed_with(self, value):
        """Return a numbered key that begins the value."""
        return NumberedKey(self.suite, value[:self.suite.key_size])

    def mix_data(self, data):
        """Mix data into the hash."""
        self.need_whole()
        self.hashed = self.hash_with(data)

    def mix_key(self, data):
        """Mix a key input into the chain value, and take a new key."""
        self.need_whole()
        chain, second = two_values(self.suite, self.chain, data)
        self.cipher = self.keyed_with(second)
        self.chain = chain

    def mix_both(self, data):
        """Mix an input into the chain value and the hash, and take a new key."""
        self.need_whole()
        chain, second, third = three_values(self.suite, self.chain, data)
        self.hashed = self.hash_with(second)
        self.cipher = self.keyed_with(third)
        self.chain = chain

    def seal(self, text):
        """Return the sealed text, and mix it as data."""
        self.need_whole()
        # On a twin, so that an error of the digest would use no number.
        cipher = self.cipher.twin()
        sealed = cipher.seal(self.hashed, text)
        self.hashed = self.hash_with(sealed)
        self.cipher = cipher
        return sealed

    def open_sealed(self, sealed):
        """Return the text of something sealed, and mix what was sealed as data."""
        self.need_whole()
        cipher = self.cipher.twin()
        text = cipher.open_sealed(self.hashed, sealed)
        self.hashed = self.hash_with(sealed)
        self.cipher = cipher
        return text

    def hash(self):
        """Return the hash."""
        return list(self.hashed)

    def has_key(self):
        """Return True if there is a key, otherwise False."""
        return self.cipher.has_key()

    def split(self):
        """Return the two keys that follow from the chain value."""
        self.need_whole()
        first, second = two_values(self.suite, self.chain, [])
        self.parted = True
        size = self.suite.key_size
        return first[:size], second[:size]

    def twin(self):
        """Return an independent copy."""
        other = Transcript(self.suite, "")
        other.chain = list(self.chain)
        other.hashed = list(self.hashed)
        other.cipher = self.cipher.twin()
        other.parted = self.parted
        return other

    def state(self):
        """Return the chain value, the hash, the key, its number, and whether it was split."""
        key, number = self.cipher.state()
        return tuple(self.chain), tuple(self.hashed), key, number, self.parted
