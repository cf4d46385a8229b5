"""The handshake of a connection, over frames (points 184, 185, 187 and 188)."""

from hushlink.accepting import accepts
from hushlink.errors import Exhausted, Malformed, NotAuthentic, Refused
from hushlink.handshake import Handshake
from hushlink.octets import from_big, to_big
from hushlink.options import MOST_NAME
from hushlink.rules import needs_peer

LENGTH_SIZE = 2


def framed(data):
    """Return a frame: the length of the bytes, and the bytes."""
    return to_big(len(data), LENGTH_SIZE) + data


def name_codes(name):
    """Return the codes of a pattern's name."""
    return [ord(character) for character in name]


class Shaking:
    """One side of a handshake. Its steps are "bytes", "failed" and "done"."""

    def __init__(self, options, name, opener):
        self.options = options
        self.name = name
        self.opener = opener
        self.rest = []
        self.chosen = None
        # The peer's public key that the store had when the pattern was chosen.
        self.known = None
        self.handshake = None
        self.asked = False

    def begin(self):
        """Return the first bytes that the opener sends."""
        pattern = self.options.first
        self.known = self.options.store.name_key(self.name)
        self.make_handshake(pattern)
        self.chosen = pattern
        name = name_codes(pattern.name)
        return [len(name)] + name + framed(self.handshake.write([]))

    def make_handshake(self, pattern):
        """Take a fresh ephemeral secret, and begin the handshake with it."""
        options = self.options
        secret = options.store.secret()
        ephemeral = options.store.fresh()
        self.handshake = Handshake(options.suite, pattern, opener=self.opener,
                                   prologue=options.prologue, secret=secret, ephemeral=ephemeral,
                                   peer=self.known, psk=options.psk)

    def gather(self, data):
        """Keep more bytes of the link."""
        self.rest.extend(data)

    def step(self):
        """Return the next step: its name, and what belongs to it. None if bytes are missing."""
        if self.handshake is not None and self.handshake.is_done():
            return self.conclude()
        if self.handshake is not None and self.handshake.writes_next():
            return "bytes", framed(self.handshake.write([]))
        if self.chosen is None:
            reason = self.choose()
            if reason is not None:
                return "failed", reason
        message = self.taken_frame()
        if message is None:
            return None
        reason = self.read(message)
        if reason is not None:
            return "failed", reason
        return self.step()

    def choose(self):
        """Choose the pattern that the opener names. Return a reason if there is none."""
        if not self.rest or len(self.rest) < 1 + self.rest[0]:
            return None
        end = 1 + self.rest[0]
        codes = self.rest[1:end]
        pattern = self.pattern_of(codes)
        if not 1 <= len(codes) <= MOST_NAME or pattern is None:
            return "form"
        known = self.options.store.name_key(self.name)
        if known is None and needs_peer(pattern, opener=False):
            return "peer"
        self.chosen = pattern
        self.known = known
        self.rest = self.rest[end:]
        return None

    def pattern_of(self, codes):
        """Return the own pattern whose name has these codes, or None."""
        for name, pattern in self.options.patterns.items():
            if name_codes(name) == codes:
                return pattern
        return None

    def taken_frame(self):
        """Return the bytes of the next frame, None if there is no whole one."""
        if self.chosen is None or len(self.rest) < LENGTH_SIZE:
            return None
        end = LENGTH_SIZE + from_big(self.rest[:LENGTH_SIZE])
        if len(self.rest) < end:
            return None
        message = self.rest[LENGTH_SIZE:end]
        self.rest = self.rest[end:]
        return message

    def read(self, message):
        """Read the next message. Return a reason if the connection fails."""
        try:
            if self.handshake is None:
                self.make_handshake(self.chosen)
            payload = self.handshake.read(message)
        except Exhausted:
            return "limit"
        except Malformed:
            return "form"
        except NotAuthentic:
            return "seal"
        if payload:
            return "form"
        if self.handshake.peer() is not None and not self.is_accepted():
            return "peer"
        return None

    def is_accepted(self):
        """Return False if the rule does not accept the peer's key. It is asked only once."""
        if self.asked:
            return True
        self.asked = True
        return accepts(self.options.rule, self.options.store, self.name, self.handshake.peer())

    def conclude(self):
        """Return the last step, behind the last message."""
        if not self.is_accepted():
            return "failed", "peer"
        try:
            self.keep_first()
        except Exhausted:
            return "failed", "limit"
        except Refused:
            return "failed", "peer"
        return "done", self.handshake

    def keep_first(self):
        """Let the store keep the peer's key if the rule says so."""
        if self.options.rule[0] == "first" and self.name is not None:
            self.options.store.keep_name(self.name, self.handshake.peer())

    def saved(self):
        """Return what steps may change."""
        inner = None
        if self.handshake is not None:
            # What these hold is replaced by each message, and not changed.
            inner = (self.handshake.place, self.handshake.transcript, self.handshake.others)
        return (self.rest, len(self.rest), self.chosen, self.known, self.handshake, self.asked,
                inner)

    def put_back(self, kept):
        """Be again as saved has told."""
        # Bytes are only appended to this list; what is left of it is a new one.
        rest, size, self.chosen, self.known, self.handshake, self.asked, inner = kept
        self.rest = rest[:size]
        if inner is not None:
            handshake = self.handshake
            handshake.place, handshake.transcript, handshake.others = inner
