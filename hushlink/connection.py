"""One connection of an end (points 184 to 197)."""

from hushlink.checks import need_length
from hushlink.errors import OutOfOrder, PowerLost, Refused
from hushlink.receiving import Receiver
from hushlink.sending import MOST_BYTES, Sender
from hushlink.shaking import Shaking

ALARM_CODE = 1


def total_size(messages):
    """Return how many bytes the messages have together."""
    return sum([len(message) for message in messages])


class Connection:
    """A handshake, and then a sender and a receiver, on one link."""

    def __init__(self, options, link, name, opener):
        self.options = options
        self.link = link
        self.opener = opener
        self.shaking = Shaking(options, name, opener)
        self.sender = None
        self.receiver = None
        # The messages that wait to be sent, and those that wait to be fetched.
        self.outgoing = []
        self.arrived = []
        self.ticks = 0
        self.has_finished = False
        self.is_drained = False

    def begin(self):
        """Return the effects of opening the connection."""
        return [("bytes", self.link, self.shaking.begin())]

    def is_over(self):
        """Return True if the connection is over, otherwise False."""
        return self.shaking is None and self.sender is None

    def stage(self):
        """Return how far the connection has come."""
        if self.is_over():
            return "over"
        if self.shaking is not None:
            return "shaking"
        if self.has_finished:
            return "finished"
        if self.is_drained:
            return "drained"
        return "ready"

    def receive(self, data):
        """Return the effects of more bytes of the link."""
        if self.is_over() or self.is_drained:
            return []
        if self.shaking is None:
            return self.listen(data)
        shaking = self.shaking
        kept = shaking.saved()
        try:
            return self.shake(data)
        except (PowerLost, OutOfOrder):
            # The store fails in the middle of the call.
            shaking.put_back(kept)
            raise

    def shake(self, data):
        """Return the effects of more bytes during the handshake."""
        effects = []
        self.shaking.gather(data)
        found = self.shaking.step()
        while found is not None:
            word, worth = found
            if word == "failed":
                return effects + self.fail(worth)
            if word == "done":
                return effects + self.become_ready(worth)
            effects.append(("bytes", self.link, worth))
            found = self.shaking.step()
        return effects

    def become_ready(self, handshake):
        """Return the effects of a handshake that is done."""
        options = self.options
        names = []
        key = handshake.peer()
        if key is not None:
            names = options.store.key_names(key)
        name = None
        if names:
            name = names[0]
        effects = [("ready", self.link, key, name, handshake.hash())]
        own, other = handshake.split()
        if not self.opener:
            own, other = other, own
        self.sender = Sender(options.suite, own, limit=options.records)
        self.receiver = Receiver(options.suite, other, limit=options.records)
        for message in self.outgoing:
            effects.append(("bytes", self.link, self.sender.message(message)))
        self.outgoing = []
        self.ticks = 0
        rest = self.shaking.rest
        self.shaking = None
        return effects + self.listen(rest)

    def listen(self, data):
        """Return the effects of more bytes behind the handshake."""
        effects = []
        self.receiver.gather(data)
        event = self.receiver.step()
        while event is not None:
            self.ticks = 0
            effects.extend(self.react(event))
            event = None
            if not self.is_over():
                event = self.receiver.step()
        return effects

    def react(self, event):
        """Return the effects of an event of the receiver."""
        kind = event[0]
        if kind == "message":
            return self.take_in(event[1])
        if kind == "changed":
            return [("changed", self.link)]
        if kind == "closed":
            self.is_drained = True
            return [("whole", self.link)] + self.end_if_both()
        if kind == "alarm":
            return self.fail("alarm")
        return self.fail(event[1])

    def take_in(self, message):
        """Return the effects of a message that has arrived."""
        self.arrived.append(message)
        effects = [("waits", self.link, len(message))]
        if len(self.arrived) >= 2 and total_size(self.arrived) > self.options.waiting:
            effects.extend(self.fail("limit"))
        return effects

    def end_if_both(self):
        """Return the effect of the end, if both sides have finished."""
        if not self.has_finished or not self.is_drained:
            return []
        self.drop_keys()
        return [("over", self.link)]

    def drop_keys(self):
        """Be over: forget everything but the messages that wait to be fetched."""
        self.shaking = None
        self.sender = None
        self.receiver = None
        self.outgoing = []

    def fail(self, reason):
        """Return the effects of a failure."""
        effects = []
        if self.sender is not None and reason != "alarm" and not self.has_finished:
            effects.append(("bytes", self.link, self.sender.alarm(ALARM_CODE)))
        effects.append(("failed", self.link, reason))
        self.drop_keys()
        return effects

    def post(self, message):
        """Return the effects of sending a message."""
        if self.is_over() or self.has_finished:
            raise OutOfOrder("nothing can be sent on this link")
        need_length(message, 0, MOST_BYTES)
        if self.shaking is None:
            return [("bytes", self.link, self.sender.message(message))]
        if total_size(self.outgoing) + len(message) > MOST_BYTES:
            raise Refused("too many bytes wait to be sent")
        self.outgoing.append(list(message))
        return []

    def fetch(self):
        """Return the oldest message that waits, as an effect."""
        if not self.arrived:
            return [("nothing", self.link)]
        return [("message", self.link, self.arrived.pop(0))]

    def finish(self):
        """Return the effects of sending nothing more."""
        if self.sender is None or self.has_finished:
            raise OutOfOrder("the connection is not ready, or has finished")
        effects = [("bytes", self.link, self.sender.close())]
        self.has_finished = True
        return effects + self.end_if_both()

    def cut_link(self):
        """Return the effects of a link that is broken."""
        if self.is_over():
            raise OutOfOrder("there is no connection")
        self.drop_keys()
        return [("parted", self.link)]

    def tick(self, count):
        """Return the effects of time that passes."""
        if self.is_over():
            return []
        self.ticks += count
        limit = self.options.silent_ticks
        if self.shaking is not None:
            limit = self.options.handshake_ticks
        if limit != 0 and self.ticks >= limit:
            return self.fail("time")
        return []
