"""A handshake: one end's run of a pattern (points 106 to 111)."""

from hushlink.checks import need_length, need_range
from hushlink.errors import Malformed, OutOfOrder, Refused
from hushlink.pattern import ARROWS
from hushlink.rules import broken_rule, end_before, end_sends, needs_peer, needs_secret, uses_psk
from hushlink.transcript import Transcript

MOST_PROLOGUE = 1024
MOST_MESSAGE = 65535
PSK_SIZE = 32


def kept_parts(pattern, opener, given):
    """Return the given keys, None for each that is not needed, or raise Refused.

    They are in the order of the parameters: the own static and ephemeral
    secret key, the peer's static and ephemeral public key, the psk."""
    needed = (
        needs_secret(pattern, opener=opener),
        end_sends(pattern, "e", opener) or "e" in end_before(pattern, opener),
        needs_peer(pattern, opener=opener),
        "e" in end_before(pattern, not opener),
        uses_psk(pattern),
    )
    kept = []
    for part, is_needed in zip(given, needed):
        if not is_needed:
            kept.append(None)
        elif part is None:
            raise Refused("a part that the pattern needs is missing")
        else:
            kept.append(part)
    return kept


def check_parts(suite, prologue, kept):
    """Raise OutOfRange or Malformed unless the kept parts can be used."""
    need_length(prologue, 0, MOST_PROLOGUE)
    sizes = [suite.key_size] * 4 + [PSK_SIZE]
    for part, size in zip(kept, sizes):
        if part is not None:
            need_length(part, size, size)
    for public in kept[2:4]:
        if public is not None and suite.is_weak(public):
            raise Malformed("a public key of the other end is weak")


def copied(data):
    """Return a copy of a byte list, None for None."""
    if data is None:
        return None
    return list(data)


def frozen(data):
    """Return the tuple of a byte list, None for None."""
    if data is None:
        return None
    return tuple(data)


class Handshake:
    """Writes and reads the messages of a pattern for one end."""

    def __init__(self, suite, pattern, *, opener, prologue=(), secret=None, ephemeral=None,
                 peer=None, peer_ephemeral=None, psk=None):
        if broken_rule(pattern) != 0:
            raise Refused("the pattern is not valid")
        kept = kept_parts(pattern, opener, (secret, ephemeral, peer, peer_ephemeral, psk))
        check_parts(suite, prologue, kept)
        self.suite = suite
        self.messages = pattern.messages
        self.with_psk = uses_psk(pattern)
        self.opener = opener
        self.secrets = {"s": copied(kept[0]), "e": copied(kept[1])}
        self.others = {"s": copied(kept[2]), "e": copied(kept[3])}
        self.psk = copied(kept[4])
        self.place = 0
        self.transcript = Transcript(suite, "Noise_" + pattern.name + "_" + suite.name)
        self.transcript.mix_data(list(prologue))
        for arrow, tokens in zip(ARROWS, pattern.before):
            for token in tokens:
                self.mix_public(self.transcript, token, self.known_public(arrow, token))

    def known_public(self, arrow, token):
        """Return the public key that an end has before the handshake."""
        if self.is_own(arrow):
            return self.suite.public(self.secrets[token])
        return self.others[token]

    def is_own(self, arrow):
        """Return True if the arrow is this end's, otherwise False."""
        return (arrow == "->") == self.opener

    def mix_public(self, transcript, token, public):
        """Mix a public key that is not sealed."""
        transcript.mix_data(public)
        if token == "e" and self.with_psk:
            transcript.mix_key(public)

    def mix_shared(self, transcript, token, others):
        """Mix what both ends have: the secret of two keys, or the psk."""
        if token == "psk":
            transcript.mix_both(self.psk)
            return
        own, other = token
        if not self.opener:
            own, other = other, own
        transcript.mix_key(self.suite.exchange(self.secrets[own], others[other]))

    def sealed_size(self, size, has_key):
        """Return how many bytes the transcript makes of size bytes."""
        if has_key:
            return size + self.suite.tag_size
        return size

    def overhead(self):
        """Return how many bytes the next message has besides its payload."""
        if self.is_done():
            return 0
        has_key = self.transcript.has_key()
        total = 0
        for token in self.messages[self.place][1]:
            if token == "e":
                total += self.suite.key_size
                has_key = has_key or self.with_psk
            elif token == "s":
                total += self.sealed_size(self.suite.key_size, has_key)
            else:
                has_key = True
        return total + self.sealed_size(0, has_key)

    def write(self, payload):
        """Return the next message, with this payload."""
        if not self.writes_next():
            raise OutOfOrder("no message of this end is next")
        need_range(self.overhead() + len(payload), 0, MOST_MESSAGE)
        transcript = self.transcript.twin()
        message = []
        for token in self.messages[self.place][1]:
            if token == "e":
                public = self.suite.public(self.secrets["e"])
                message.extend(public)
                self.mix_public(transcript, "e", public)
            elif token == "s":
                message.extend(transcript.seal(self.suite.public(self.secrets["s"])))
            else:
                self.mix_shared(transcript, token, self.others)
        message.extend(transcript.seal(payload))
        self.transcript = transcript
        self.place += 1
        return message

    def read(self, message):
        """Return the payload of the next message."""
        if self.is_done() or self.writes_next():
            raise OutOfOrder("no message of the other end is next")
        if not self.overhead() <= len(message) <= MOST_MESSAGE:
            raise Malformed("the message does not have the required length")
        # Until all of it has opened, everything happens on copies.
        transcript = self.transcript.twin()
        others = dict(self.others)
        rest = message
        for token in self.messages[self.place][1]:
            if token in ("e", "s"):
                size = self.suite.key_size
                if token == "s":
                    size = self.sealed_size(size, transcript.has_key())
                others[token] = self.taken_public(transcript, token, rest[:size])
                rest = rest[size:]
            else:
                self.mix_shared(transcript, token, others)
        payload = transcript.open_sealed(rest)
        self.transcript = transcript
        self.others = others
        self.place += 1
        return payload

    def taken_public(self, transcript, token, data):
        """Return the public key that a part of a message holds."""
        public = data
        if token == "s":
            public = transcript.open_sealed(data)
        if self.suite.is_weak(public):
            raise Malformed("a public key of the other end is weak")
        if token == "e":
            self.mix_public(transcript, token, public)
        return public

    def is_done(self):
        """Return True if the last message was written or read, otherwise False."""
        return self.place == len(self.messages)

    def writes_next(self):
        """Return True if this end's message is next, otherwise False."""
        return not self.is_done() and self.is_own(self.messages[self.place][0])

    def hash(self):
        """Return the hash of the transcript."""
        return self.transcript.hash()

    def peer(self):
        """Return the other end's static public key, or None."""
        return copied(self.others["s"])

    def split(self):
        """Return the opener's key and the answerer's key for what comes next."""
        if not self.is_done():
            raise OutOfOrder("the handshake is not done")
        return self.transcript.split()

    def state(self):
        """Return the index of the next message, the transcript's state and the peer's keys."""
        return (self.place, self.transcript.state(), frozen(self.others["s"]),
                frozen(self.others["e"]))
