"""Ends for the tests, and what carries bytes between them."""

from hushlink.catalog import pattern_named
from hushlink.disk import Disk
from hushlink.ends import End
from hushlink.handshake import Handshake
from hushlink.rules import needs_peer
from hushlink.store import Store, prepare
from support import some_bytes

PSK = some_bytes(32, 9)


def seed_of(suite, number):
    return some_bytes(suite.key_size, 200 + number)


def secret_of(suite, number):
    return some_bytes(suite.key_size, 300 + number)


def public_of(suite, number):
    return suite.public(secret_of(suite, number))


def store_of(suite, number, names=(), secret=True):
    """A store whose secret key has this number, with the numbers of the keys of some names."""
    disk = Disk()
    own = secret_of(suite, number) if secret else None
    prepare(suite, disk, seed_of(suite, number), own)
    store = Store(suite, disk)
    for name, other in dict(names).items():
        store.keep_name(name, public_of(suite, other))
    return store


def frame(data):
    return [len(data) // 256, len(data) % 256] + data


def first_piece(name, message):
    return [len(name)] + list(name.encode()) + frame(message)


class Party:
    """An end, its store, and all effects that it has had. ann is 1, bob is 2, others follow."""

    def __init__(self, suite, number, names=(), secret=True, **options):
        self.suite, self.number = suite, number
        self.store = store_of(suite, number, names, secret)
        self.disk = self.store.disk
        self.end = End(suite, self.store, **options)
        self.effects = []

    def tell(self, effects):
        self.effects += effects
        return effects

    def sent(self, link):
        """The pieces that the end has sent over a link."""
        return [effect[2] for effect in self.effects if effect[:2] == ("bytes", link)]


def carry(one, other, link, other_link):
    """Carry all bytes between two parties until nothing is under way."""
    places = {one: 0, other: 0}
    links = {one: link, other: other_link}
    moved = True
    while moved:
        moved = False
        for sender, taker in ((one, other), (other, one)):
            pieces = sender.sent(links[sender])
            while places[sender] < len(pieces):
                piece = pieces[places[sender]]
                places[sender] += 1
                taker.tell(taker.end.receive(links[taker], piece))
                moved = True


class Plain:
    """The handshake of two parties, written with Handshake and nothing else."""

    def __init__(self, suite, name, prologue=(), psk=None, numbers=(0, 0)):
        self.suite, self.pattern = suite, pattern_named(name)
        self.sides = []
        for opener in (True, False):
            own, other = (1, 2) if opener else (2, 1)
            store = store_of(suite, own)
            for _ in range(numbers[own - 1] + 1):
                ephemeral = store.fresh()
            peer = public_of(suite, other)
            if not needs_peer(self.pattern, opener=opener):
                peer = None
            self.sides.append(Handshake(suite, self.pattern, opener=opener, prologue=prologue,
                                        secret=secret_of(suite, own), ephemeral=ephemeral,
                                        peer=peer, psk=psk))
        self.messages = []
        writer, reader = self.sides
        while not writer.is_done():
            self.messages.append(writer.write([]))
            reader.read(self.messages[-1])
            writer, reader = reader, writer
        self.hash = self.sides[0].hash()
        self.keys = self.sides[0].split()

    def pieces(self, side):
        """The pieces that a side sends: 0 is the opener's."""
        found = [frame(message) for message in self.messages[side::2]]
        if side == 0:
            found[0] = first_piece(self.pattern.name, self.messages[0])
        return found


def parties(suite, name, **options):
    """Two parties that run a pattern, and know each other's keys."""
    one = Party(suite, 1, {"bob": 2}, patterns=(name,), **options)
    two = Party(suite, 2, {"ann": 1}, patterns=(name,), **options)
    return one, two


def ready_pair(suite, name="XX", link=3, other_link=8, **options):
    """Two parties with a connection that is ready; their effects up to then are forgotten."""
    one, two = parties(suite, name, **options)
    two.tell(two.end.answer(other_link, "ann"))
    one.tell(one.end.start(link, "bob"))
    carry(one, two, link, other_link)
    assert one.end.stage(link) == two.end.stage(other_link) == "ready"
    one.effects, two.effects = [], []
    return one, two
