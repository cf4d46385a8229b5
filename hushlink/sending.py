"""Messages as frames of sealed records (points 130 to 135)."""

from hushlink.checks import need_length, need_range
from hushlink.errors import OutOfOrder
from hushlink.octets import cut, to_big, zeros

LAST_PIECE = 1
EARLIER_PIECE = 2
CHANGE = 3
CLOSE = 4
ALARM = 5
MOST_BYTES = 1048576
MOST_PADDING = 4096
MOST_LIMIT = 1 << 40
MOST_PIECE = 16384
# The bytes of a frame's length, and those of a record before its content.
LENGTH_SIZE = 2
HEAD_SIZE = 3
NEXT_KEY_LABEL = "hushlink next key"


def next_key(suite, key):
    """Return the next key of a key."""
    return suite.keyed(key, [ord(character) for character in NEXT_KEY_LABEL])


def fill_size(size, unit):
    """Return how many bytes are missing from size to a multiple of the unit."""
    return -size % unit


def frame_size(suite, size, *, padding=1):
    """Return the length of the frame of a record whose content has size bytes."""
    record = HEAD_SIZE + size
    return LENGTH_SIZE + record + fill_size(record, padding) + suite.tag_size


def write_content(kind, content, unit):
    """Return the record of a kind and a content, padded to a multiple of the unit."""
    record = [kind] + to_big(len(content), 2) + content
    return record + zeros(fill_size(len(record), unit))


class Sender:
    """Turns the messages of one direction into frames."""

    def __init__(self, suite, key, *, padding=1, limit=1048576, piece=16384):
        need_length(key, suite.key_size, suite.key_size)
        need_range(padding, 1, MOST_PADDING)
        need_range(limit, 2, MOST_LIMIT)
        need_range(piece, 1, MOST_PIECE)
        self.suite = suite
        self.key = list(key)
        self.padding = padding
        self.limit = limit
        self.piece = piece
        self.used = 0
        self.many = 0
        self.ended = False

    def need_going(self):
        """Raise OutOfOrder behind a close or an alarm."""
        if self.ended:
            raise OutOfOrder("nothing follows a close or an alarm")

    def frame(self, kind, content):
        """Return the frame of a record, and use a number."""
        record = write_content(kind, content, self.padding)
        length = to_big(len(record) + self.suite.tag_size, LENGTH_SIZE)
        sealed = self.suite.seal(self.key, self.used, length, record)
        self.used += 1
        return length + sealed

    def changed(self):
        """Return the frame of a change of the key, and take the next key."""
        data = self.frame(CHANGE, [])
        self.key = next_key(self.suite, self.key)
        self.used = 0
        return data

    def frames(self, kind, content):
        """Return the frame of a record, behind a change of the key where one is due."""
        data = []
        if self.used == self.limit - 1:
            data.extend(self.changed())
        return data + self.frame(kind, content)

    def last_frames(self, kind, content):
        """Return the frames of the record that no other one follows."""
        data = self.frames(kind, content)
        self.ended = True
        self.key = []
        return data

    def message(self, data):
        """Return the frames of a message."""
        self.need_going()
        need_length(data, 0, MOST_BYTES)
        # Only the empty message has an empty piece.
        pieces = cut(data, self.piece) or [[]]
        sent = []
        for piece in pieces[:-1]:
            sent.extend(self.frames(EARLIER_PIECE, piece))
        sent.extend(self.frames(LAST_PIECE, pieces[-1]))
        self.many += 1
        return sent

    def change_key(self):
        """Return the frame of a change of the key."""
        self.need_going()
        return self.changed()

    def close(self):
        """Return the frames of the close."""
        self.need_going()
        return self.last_frames(CLOSE, to_big(self.many, 8))

    def alarm(self, code=0):
        """Return the frames of the alarm."""
        self.need_going()
        need_range(code, 0, 255)
        return self.last_frames(ALARM, [code])

    def sent(self):
        """Return the number of messages."""
        return self.many

    def state(self):
        """Return what the sender knows: its key, number, messages, and whether it has ended."""
        return "sender", tuple(self.key), self.used, self.many, self.ended
