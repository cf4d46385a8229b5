"""The bytes of a link back into messages (points 131 and 133 to 139)."""

from hushlink.checks import need_length, need_range
from hushlink.errors import NotAuthentic
from hushlink.octets import from_big
from hushlink.sending import (ALARM, CHANGE, CLOSE, EARLIER_PIECE, HEAD_SIZE, LENGTH_SIZE, MOST_BYTES,
                              MOST_LIMIT, next_key)

# The least and the most bytes that the content of each kind has.
CONTENT_SIZES = {1: (0, 16384), 2: (1, 16384), 3: (0, 0), 4: (8, 8), 5: (1, 1)}
MOST_FILL = 4095
MOST_RECORD = 20482


def has_form(record):
    """Return True if an opened record has the form that its kind requires."""
    kind = record[0]
    if kind not in CONTENT_SIZES:
        return False
    least, most = CONTENT_SIZES[kind]
    size = from_big(record[1:HEAD_SIZE])
    fill = record[HEAD_SIZE + size:]
    if HEAD_SIZE + size > len(record) or any(fill) or len(fill) > MOST_FILL:
        return False
    return least <= size <= most


def content_of(record):
    """Return the content of a record that has the required form."""
    return record[HEAD_SIZE:HEAD_SIZE + from_big(record[1:HEAD_SIZE])]


class Receiver:
    """Turns the bytes of one direction back into messages."""

    def __init__(self, suite, key, *, limit=1048576):
        need_length(key, suite.key_size, suite.key_size)
        need_range(limit, 2, MOST_LIMIT)
        self.suite = suite
        self.key = list(key)
        self.limit = limit
        self.used = 0
        self.many = 0
        self.parts = []
        self.rest = []
        # The bytes of the rest before this place were handled.
        self.handled = 0
        self.ending = ""

    def receive(self, data):
        """Return the events that more bytes of the link lead to."""
        self.gather(data)
        events = []
        event = self.step()
        while event is not None:
            events.append(event)
            event = self.step()
        return events

    def gather(self, data):
        """Keep more bytes of the link."""
        if not self.over():
            self.rest.extend(data)

    def step(self):
        """Return the next event of the bytes that are kept, or None."""
        while not self.over():
            body = self.handled + LENGTH_SIZE
            if len(self.rest) < body:
                return None
            head = self.rest[self.handled:body]
            size = from_big(head)
            extra = self.suite.tag_size
            if not HEAD_SIZE + extra <= size <= MOST_RECORD + extra:
                return self.fail("length")
            if len(self.rest) < body + size:
                return None
            sealed = self.rest[body:body + size]
            self.move_on(body + size)
            event = self.treat(head, sealed)
            if event is not None:
                return event
        return None

    def move_on(self, place):
        """Take the bytes before the place as handled."""
        self.handled = place
        # Not after each frame: many short frames would make this slow.
        if 2 * place > len(self.rest):
            self.rest = self.rest[place:]
            self.handled = 0

    def treat(self, head, sealed):
        """Return the event of a frame, or None if it has none."""
        try:
            record = self.suite.open_sealed(self.key, self.used, head, sealed)
        except NotAuthentic:
            return self.fail("seal")
        if not has_form(record):
            return self.fail("form")
        kind = record[0]
        content = content_of(record)
        if not self.in_order(kind, content):
            return self.fail("order")
        self.used += 1
        if kind == CHANGE:
            self.key = next_key(self.suite, self.key)
            self.used = 0
            return ("changed",)
        if kind == CLOSE:
            return self.end(("closed",))
        if kind == ALARM:
            return self.end(("alarm", content[0]))
        return self.add_piece(kind, content)

    def in_order(self, kind, content):
        """Return True if a record of this kind may come now."""
        if self.used == self.limit - 1 and kind != CHANGE:
            return False
        if kind == CLOSE:
            return not self.parts and from_big(content) == self.many
        return True

    def add_piece(self, kind, piece):
        """Return the event of a message that is whole now, None if it is not."""
        if len(self.parts) + len(piece) > MOST_BYTES:
            return self.fail("size")
        self.parts.extend(piece)
        if kind == EARLIER_PIECE:
            return None
        whole = self.parts
        self.parts = []
        self.many += 1
        return ("message", whole)

    def fail(self, reason):
        """Return the event of an error, behind which nothing follows."""
        return self.end(("failed", reason))

    def end(self, event):
        """Forget the key and all bytes, and return the last event."""
        self.ending = event[0]
        self.key = []
        self.used = 0
        self.parts = []
        self.rest = []
        self.handled = 0
        return event

    def over(self):
        """Return True behind a close, an alarm or an error, otherwise False."""
        return self.ending != ""

    def state(self):
        """Return what the receiver knows, and how it has ended."""
        rest = self.rest[self.handled:]
        return ("receiver", tuple(self.key), self.used, self.many, tuple(self.parts), tuple(rest),
                self.ending)
