"""A disk of two banks that may lose its power and crash (points 161 to 163)."""

from hushlink.checks import need_range
from hushlink.errors import OutOfOrder, PowerLost
from hushlink.octets import zeros

BANK_SIZE = 65536


class Disk:
    """Two banks; what is written to one is pending until it is settled."""

    def __init__(self):
        self.banks = [[], []]
        # How many bytes of each bank are settled.
        self.settled = [0, 0]
        # How many deeds the power lasts for, None if the disk is not armed.
        self.left = None
        self.falls = 0

    def use_power(self):
        """Count a deed, or raise PowerLost."""
        if not self.has_power():
            raise PowerLost("the disk has lost its power")
        if self.left is not None:
            self.left -= 1

    def write(self, bank, data):
        """Append bytes to a bank; they are pending."""
        self.use_power()
        if self.unsettled(1 - bank) > 0:
            raise OutOfOrder("the other bank has pending bytes")
        need_range(len(self.banks[bank]) + len(data), 0, BANK_SIZE)
        self.banks[bank].extend(data)

    def settle(self, bank):
        """Settle the pending bytes of a bank."""
        self.use_power()
        self.settled[bank] = len(self.banks[bank])

    def cut(self, bank, length):
        """Remove the bytes of a bank behind a length."""
        self.use_power()
        if self.pending() > 0:
            raise OutOfOrder("bytes are pending")
        need_range(length, 0, len(self.banks[bank]))
        self.banks[bank] = self.banks[bank][:length]
        self.settled[bank] = length

    def read(self, bank):
        """Return the settled and pending bytes of a bank."""
        return list(self.banks[bank])

    def unsettled(self, bank):
        """Return how many bytes of a bank are pending."""
        return len(self.banks[bank]) - self.settled[bank]

    def pending(self):
        """Return how many bytes are pending."""
        return self.unsettled(0) + self.unsettled(1)

    def arm(self, deeds):
        """Let the power last for so many deeds."""
        if self.has_power():
            self.left = deeds

    def has_power(self):
        """Return True if deeds are possible, otherwise False."""
        return self.left != 0

    def crash(self, kept, torn):
        """Keep some of the pending bytes, make zeros of the next ones, and lose the others."""
        for bank in (0, 1):
            stays = self.settled[bank] + min(kept, self.unsettled(bank))
            blank = min(torn, len(self.banks[bank]) - stays)
            self.banks[bank] = self.banks[bank][:stays] + zeros(blank)
            self.settled[bank] = stays + blank
        self.left = None
        self.falls += 1

    def crashes(self):
        """Return how often the disk has crashed."""
        return self.falls
