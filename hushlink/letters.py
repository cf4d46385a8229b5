"""Letters on links that lose, repeat and reorder them (points 140 and 141)."""

from hushlink.checks import need_length, need_range
from hushlink.errors import Exhausted, Malformed, NotAuthentic, OutOfOrder
from hushlink.octets import from_big, to_big, zeros
from hushlink.sending import MOST_BYTES, MOST_PADDING, fill_size

NUMBER_SIZE = 8
# The number that no letter has.
LAST_NUMBER = (1 << 64) - 1
MOST_MESSAGE = 16384
MOST_WINDOW = 4096
MARK = 1


class Window:
    """Remembers which of the latest numbers were taken."""

    def __init__(self, size):
        need_range(size, 1, MOST_WINDOW)
        self.size = size
        self.greatest = None
        # The number that was taken last among those with the same remainder
        # by the size: if another one of them is fresh, this one is too old.
        self.slots = [None] * size

    def fresh(self, number):
        """Return True if the number can be taken, otherwise False."""
        need_range(number, 0, LAST_NUMBER - 1)
        if self.greatest is None:
            return True
        return self.matters(number) and self.slots[number % self.size] != number

    def matters(self, number):
        """Return True if the number is greater than the greatest one minus the size."""
        return number > self.greatest - self.size

    def take(self, number):
        """Take the number if it is fresh. Return True if it was, otherwise False."""
        if not self.fresh(number):
            return False
        self.slots[number % self.size] = number
        if self.greatest is None or number > self.greatest:
            self.greatest = number
        return True

    def state(self):
        """Return the tuple of the taken numbers that still matter, ascending."""
        taken = [number for number in self.slots if number is not None]
        return tuple(sorted([number for number in taken if self.matters(number)]))


class LetterSender:
    """Seals each message on its own."""

    def __init__(self, suite, key, *, padding=1):
        need_length(key, suite.key_size, suite.key_size)
        need_range(padding, 1, MOST_PADDING)
        self.suite = suite
        self.key = list(key)
        self.padding = padding
        self.used = 0

    def letter(self, data):
        """Return the next letter, with this message."""
        need_length(data, 0, MOST_MESSAGE)
        if self.used == LAST_NUMBER:
            raise Exhausted("the key has no numbers left")
        number = to_big(self.used, NUMBER_SIZE)
        text = data + [MARK]
        text = text + zeros(fill_size(len(text), self.padding))
        sealed = self.suite.seal(self.key, self.used, number, text)
        self.used += 1
        return number + sealed

    def skip(self, count):
        """Make the next number greater by count."""
        # Never smaller: a number that was used must not come again.
        self.used = min(self.used + max(0, count), LAST_NUMBER)

    def number(self):
        """Return the number of the next letter."""
        return self.used


def marked_message(text):
    """Return the message before the mark and the padding, or raise Malformed."""
    size = len(text)
    while size > 0 and text[size - 1] == 0:
        size -= 1
    if size == 0 or text[size - 1] != MARK:
        raise Malformed("no mark stands behind the message")
    if size - 1 > MOST_MESSAGE:
        raise Malformed("the message is too long")
    return text[:size - 1]


class LetterReceiver:
    """Opens letters, each number at most once."""

    def __init__(self, suite, key, *, size=64):
        need_length(key, suite.key_size, suite.key_size)
        self.suite = suite
        self.key = list(key)
        self.window = Window(size)

    def receive(self, letter):
        """Return the message of a letter."""
        extra = self.suite.tag_size
        if len(letter) < NUMBER_SIZE + 1 + extra:
            raise Malformed("the letter is too short")
        head = letter[:NUMBER_SIZE]
        number = from_big(head)
        if number == LAST_NUMBER or not self.window.fresh(number):
            raise OutOfOrder("the number of the letter is not fresh")
        if len(letter) > NUMBER_SIZE + MOST_BYTES + extra:
            raise NotAuthentic("the letter is longer than anything sealed")
        text = self.suite.open_sealed(self.key, number, head, letter[NUMBER_SIZE:])
        self.window.take(number)
        return marked_message(text)

    def state(self):
        """Return the window's state."""
        return self.window.state()
