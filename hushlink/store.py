"""The store: what an end keeps on its disk (points 160 and 166 to 174)."""

from hushlink.bodies import begin_record, name_record, read_bank, reserve_record
from hushlink.checks import need_length, need_range
from hushlink.disk import BANK_SIZE
from hushlink.entries import COMPLETE, KEEP, RELEASE, name_bytes, write_record
from hushlink.errors import Exhausted, Malformed, OutOfOrder, Refused
from hushlink.octets import to_big

MOST_NAMES = 64
# How many numbers one record reserves.
RESERVED = 16
MOST_LIMIT = (1 << 64) - 1
MOST_GENERATION = (1 << 32) - 1
NUMBER_SIZE = 8
EPHEMERAL_LABEL = "hushlink ephemeral"


def prepare(suite, disk, seed, secret):
    """Write a new store to a disk."""
    need_length(seed, suite.key_size, suite.key_size)
    if secret is not None:
        need_length(secret, suite.key_size, suite.key_size)
    if latest_bank(suite, disk) is not None:
        raise OutOfOrder("the disk has a store")
    data = begin_record(1, seed, secret) + write_record(COMPLETE, [])
    disk.cut(0, 0)
    disk.cut(1, 0)
    disk.write(0, data)
    disk.settle(0)


def latest_bank(suite, disk):
    """Return the index of the complete bank that counts and what it says, or None."""
    latest = None
    for index in (0, 1):
        said = read_bank(disk.read(index), suite.key_size)
        if said is not None and (latest is None or said.generation > latest[1].generation):
            latest = (index, said)
    return latest


class Store:
    """The seed, the secret key, the peers' keys and the numbers of an end."""

    def __init__(self, suite, disk):
        latest = latest_bank(suite, disk)
        if latest is None:
            raise Malformed("no bank of the disk is complete")
        index, said = latest
        if len(disk.read(index)) > said.filled:
            disk.cut(index, said.filled)
        self.suite = suite
        self.disk = disk
        self.born = disk.crashes()
        self.bank = index
        self.filled = said.filled
        self.generation = said.generation
        self.root = said.root
        self.own = said.own
        self.table = said.table
        self.limit = said.limit
        self.used = said.limit

    def seed(self):
        """Return the seed."""
        return list(self.root)

    def secret(self):
        """Return the secret key, or None."""
        if self.own is None:
            return None
        return list(self.own)

    def next_number(self):
        """Return a number that was never handed out."""
        self.need_present()
        if self.used >= self.limit:
            more = self.limit + RESERVED
            if more > MOST_LIMIT:
                raise Exhausted("the store has no numbers left")
            self.enter(reserve_record(more))
            self.limit = more
        number = self.used
        self.used += 1
        return number

    def ephemeral(self, number):
        """Return the ephemeral secret key of a number that was handed out."""
        need_range(number, 0, self.used - 1)
        size = self.suite.key_size
        data = [ord(character) for character in EPHEMERAL_LABEL] + to_big(number, NUMBER_SIZE)
        key = []
        count = 0
        while len(key) < size:
            key.extend(self.suite.keyed(self.root, data + [count]))
            count += 1
        return key[:size]

    def fresh(self):
        """Return the ephemeral secret key of the next number."""
        return self.ephemeral(self.next_number())

    def keep_name(self, name, key):
        """Keep the key of a name. Return True if the name had none, False if it had this one."""
        self.check_name(name, key)
        if self.table.get(name) == key:
            return False
        self.need_present()
        if name in self.table:
            raise Refused("the name has another key")
        if len(self.table) >= MOST_NAMES:
            raise Exhausted("no more names can be kept")
        self.enter(name_record(KEEP, name, key))
        self.table[name] = list(key)
        return True

    def release(self, name, key):
        """Forget the key of a name."""
        self.check_name(name, key)
        self.need_present()
        if self.table.get(name) != key:
            raise Refused("the name does not have this key")
        self.enter(name_record(RELEASE, name, key))
        del self.table[name]

    def check_name(self, name, key):
        """Raise Malformed or OutOfRange unless the key can be that of the name."""
        name_bytes(name)
        need_length(key, self.suite.key_size, self.suite.key_size)
        if self.suite.is_weak(key):
            raise Malformed("the key is weak")

    def need_present(self):
        """Raise OutOfOrder if the disk has crashed since the store was opened."""
        if self.disk.crashes() != self.born:
            raise OutOfOrder("the disk has crashed since the store was opened")

    def enter(self, record):
        """Write a record, packed before if the bank has no room for it."""
        if not self.has_room(record):
            self.move_over()
        if not self.has_room(record):
            raise Exhausted("the store has no room left")
        self.disk.write(self.bank, record)
        self.disk.settle(self.bank)
        self.filled += len(record)

    def has_room(self, record):
        """Return True if the bank has room for a record, otherwise False."""
        return self.filled + len(record) <= BANK_SIZE

    def pack(self):
        """Write everything anew to the other bank, and use that one."""
        self.need_present()
        self.move_over()

    def move_over(self):
        """Do what pack does, on a disk that has not crashed."""
        if self.generation == MOST_GENERATION:
            raise Exhausted("the store has no generations left")
        data = begin_record(self.generation + 1, self.root, self.own) + reserve_record(self.limit)
        for name, key in self.names():
            data.extend(name_record(KEEP, name, key))
        data.extend(write_record(COMPLETE, []))
        if len(data) > BANK_SIZE:
            raise Exhausted("the store has no room left")
        other = 1 - self.bank
        self.disk.cut(other, 0)
        self.disk.write(other, data)
        self.disk.settle(other)
        self.bank = other
        self.filled = len(data)
        self.generation += 1

    def name_key(self, name):
        """Return the key of a name, or None."""
        if name not in self.table:
            return None
        return list(self.table[name])

    def key_names(self, key):
        """Return the names that have this key, ascending."""
        return [name for name, kept in self.names() if kept == key]

    def names(self):
        """Return the names and their keys, ascending by the names."""
        return [(name, list(self.table[name])) for name in sorted(self.table)]

    def state(self):
        """Return all that the store knows, with byte lists as tuples."""
        secret = None
        if self.own is not None:
            secret = tuple(self.own)
        names = tuple([(name, tuple(key)) for name, key in self.names()])
        return self.generation, tuple(self.root), secret, names, self.used, self.limit
