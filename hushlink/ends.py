"""An end: connections over links (points 180 and 184 to 197)."""

from hushlink.connection import Connection
from hushlink.errors import OutOfOrder, PowerLost, Refused
from hushlink.options import Options
from hushlink.rules import needs_peer


class End:
    """Opens and answers connections; each call returns its effects."""

    def __init__(self, suite, store, *, patterns=("XX",), prologue=(), psk=None, rule=("any",),
                 limits=(100, 0, 1000, 65536, 4)):
        self.options = Options(suite, store, patterns, prologue, psk, rule, limits)
        self.dead = False
        # Also connections that are over, as messages may wait to be fetched.
        self.lines = {}

    def need_alive(self):
        """Raise OutOfOrder if the end is dead."""
        if self.dead:
            raise OutOfOrder("the store of this end has failed")

    def has_line(self, link):
        """Return True if the link has a connection, otherwise False."""
        return link in self.lines and not self.lines[link].is_over()

    def live_line(self, link):
        """Return the connection of a link."""
        self.need_alive()
        if not self.has_line(link):
            raise OutOfOrder("the link has no connection")
        return self.lines[link]

    def need_room(self, link):
        """Raise OutOfOrder or Refused unless the link can have a connection now."""
        self.need_alive()
        if self.has_line(link):
            raise OutOfOrder("the link has a connection")
        if len(self.links()) >= self.options.most:
            raise Refused("there are too many connections")

    def start(self, link, name=None):
        """Open a connection to the peer of a name, or to anybody."""
        self.need_room(link)
        if needs_peer(self.options.first, opener=True):
            if self.options.store.name_key(name) is None:
                raise Refused("the pattern needs the peer's key, and the store has none")
        line = Connection(self.options, link, name, True)
        try:
            effects = line.begin()
        except (PowerLost, OutOfOrder):
            self.dead = True
            raise
        self.lines[link] = line
        return effects

    def answer(self, link, name=None):
        """Wait for a connection of the peer of a name, or of anybody."""
        self.need_room(link)
        self.lines[link] = Connection(self.options, link, name, False)
        return []

    def receive(self, link, data):
        """Hand over the next bytes of a link."""
        self.need_alive()
        if not self.has_line(link):
            return []
        try:
            return self.lines[link].receive(data)
        except (PowerLost, OutOfOrder):
            self.dead = True
            raise

    def post(self, link, message):
        """Send a message."""
        return self.live_line(link).post(message)

    def fetch(self, link):
        """Take the oldest message that waits, also on a link whose connection is over."""
        self.need_alive()
        if link not in self.lines:
            return [("nothing", link)]
        return self.lines[link].fetch()

    def finish(self, link):
        """Send nothing more."""
        return self.live_line(link).finish()

    def cut_link(self, link):
        """Say that a link is broken."""
        return self.live_line(link).cut_link()

    def tick(self, count=1):
        """Let ticks pass."""
        self.need_alive()
        effects = []
        for link in self.links():
            effects.extend(self.lines[link].tick(count))
        return effects

    def links(self):
        """Return the links that have a connection, in ascending order."""
        self.need_alive()
        return [link for link in sorted(self.lines) if self.has_line(link)]

    def stage(self, link):
        """Return the stage of the connection of a link, "over" if there is none."""
        self.need_alive()
        if link not in self.lines:
            return "over"
        return self.lines[link].stage()

    def public_key(self):
        """Return the public key of the store's secret, or None."""
        self.need_alive()
        secret = self.options.store.secret()
        if secret is None:
            return None
        return self.options.suite.public(secret)
