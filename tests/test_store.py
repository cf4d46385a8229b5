import random
import unittest

from hushlink.disk import Disk
from hushlink.entries import write_record
from hushlink.errors import (Exhausted, HushError, Malformed, OutOfOrder, OutOfRange, PowerLost,
                             Refused)
from hushlink.store import Store, prepare
from hushlink.suites import SmallSuite, StandardSuite
from support import HushCase, some_bytes, spoil

STANDARD, SMALL = StandardSuite(), SmallSuite()
SUITES = (STANDARD, SMALL)
MOST = 2 ** 64 - 1


def seed_of(suite):
    return some_bytes(suite.key_size, 4)


def secret_of(suite):
    return some_bytes(suite.key_size, 5)


def public(suite, number):
    return suite.public(some_bytes(suite.key_size, 100 + number))


def big(number, size):
    return list(number.to_bytes(size, "big"))


def begin(suite, generation=1, secret=None, seed=None):
    body = big(generation, 4) + (seed or seed_of(suite))
    return write_record(1, body + ([0] if secret is None else [1] + secret))


def reserve(limit):
    return write_record(3, big(limit, 8))


def named(kind, name, key):
    return write_record(kind, [len(name)] + list(name.encode()) + key)


COMPLETE = write_record(2, [])


def packed(suite, generation, secret, limit, names):
    data = begin(suite, generation, secret) + reserve(limit)
    for name, key in sorted(names.items()):
        data += named(4, name, key)
    return data + COMPLETE


def disk_with(first, second=()):
    """A disk with settled bytes in its banks."""
    disk = Disk()
    for bank, data in enumerate((first, second)):
        disk.write(bank, list(data))
        disk.settle(bank)
    return disk


def new_store(suite, secret=None):
    disk = Disk()
    prepare(suite, disk, seed_of(suite), secret)
    return disk, Store(suite, disk)


def kept(store):
    """What outlives a crash: all of the state but the generation and the next number."""
    state = store.state()
    return state[1:4] + state[5:]


class Counting(Disk):
    """A disk that writes down its deeds."""

    def __init__(self):
        super().__init__()
        self.deeds = []

    def write(self, bank, data):
        super().write(bank, data)
        self.deeds.append(("write", bank, len(data)))

    def settle(self, bank):
        super().settle(bank)
        self.deeds.append(("settle", bank))

    def cut(self, bank, length):
        super().cut(bank, length)
        self.deeds.append(("cut", bank, length))


class Preparing(HushCase):
    def test_bytes(self):
        for suite in SUITES:
            for secret in (None, secret_of(suite)):
                disk = Counting()
                self.assertIsNone(self.assert_keeps(
                    lambda seed, own: prepare(suite, disk, seed, own), seed_of(suite), secret))
                data = begin(suite, 1, secret) + COMPLETE
                self.assertEqual((disk.read(0), disk.read(1), disk.pending()), (data, [], 0))
                self.assertEqual(disk.deeds, [("cut", 0, 0), ("cut", 1, 0),
                                              ("write", 0, len(data)), ("settle", 0)])

    def test_what_was_there(self):
        for suite in SUITES:
            disk = disk_with(begin(suite) + reserve(3), [1, 2, 3])
            prepare(suite, disk, seed_of(suite), None)
            self.assertEqual((disk.read(0), disk.read(1)), (begin(suite) + COMPLETE, []))

    def test_errors_in_their_order(self):
        for suite in SUITES:
            seed, secret = seed_of(suite), secret_of(suite)
            _, store = new_store(suite)
            full, empty = store.disk, Disk()
            for disk in (full, empty):
                disk.arm(0)
                for wrong in ([], seed[1:], seed + [0]):
                    self.assert_out_of_range(prepare, suite, disk, wrong, secret)
                    self.assert_out_of_range(prepare, suite, disk, seed, wrong)
            for own in (None, secret):
                with self.assertRaises(OutOfOrder):
                    prepare(suite, full, seed, own)
                with self.assertRaises(PowerLost):
                    prepare(suite, empty, seed, own)

    def test_a_complete_bank(self):
        for suite in SUITES:
            data = begin(suite) + COMPLETE
            for disk in (disk_with(data), disk_with([], data), disk_with(data + [1, 2, 3], [4])):
                before = disk.read(0), disk.read(1)
                with self.assertRaises(OutOfOrder):
                    prepare(suite, disk, seed_of(suite), None)
                self.assertEqual((disk.read(0), disk.read(1)), before)

    def test_power_that_is_lost(self):
        data = begin(SMALL, 1, secret_of(SMALL)) + COMPLETE
        for deeds in range(4):
            for many in range(len(data) + 2):
                for torn in (0, 1, 500):
                    disk = disk_with([1, 2], [3])
                    disk.arm(deeds)
                    with self.assertRaises(PowerLost):
                        prepare(SMALL, disk, seed_of(SMALL), secret_of(SMALL))
                    disk.crash(many, torn)
                    if deeds == 3 and many >= len(data):
                        with self.assertRaises(OutOfOrder):
                            prepare(SMALL, disk, seed_of(SMALL), secret_of(SMALL))
                    else:
                        prepare(SMALL, disk, seed_of(SMALL), secret_of(SMALL))
                    self.assertEqual((disk.read(0), disk.read(1)), (data, []))
                    self.assertEqual(Store(SMALL, disk).seed(), seed_of(SMALL))
                if deeds < 3:
                    break


class Opening(HushCase):
    def assert_state(self, suite, disk, generation, names=(), limit=0, secret=None):
        store = Store(suite, disk)
        own = None if secret is None else tuple(secret)
        names = tuple((name, tuple(key)) for name, key in names)
        self.assertEqual(store.state(), (generation, tuple(seed_of(suite)), own, names, limit,
                                         limit))
        return store

    def test_a_new_store(self):
        for suite in SUITES:
            for secret in (None, secret_of(suite)):
                disk, store = new_store(suite, secret)
                self.assert_state(suite, disk, 1, secret=secret)
                self.assertEqual(store.seed(), seed_of(suite))
                self.assertEqual(store.secret(), secret)
                self.assertEqual(store.names(), [])

    def test_generations(self):
        for suite in SUITES:
            for generation in (0, 1, 255, 256, 65536, 2 ** 32 - 1):
                data = begin(suite, generation) + COMPLETE
                self.assert_state(suite, disk_with(data), generation)

    def test_two_banks(self):
        for suite in SUITES:
            for one, two in ((1, 2), (255, 256), (65535, 65536), (256, 511)):
                older = begin(suite, one) + reserve(99) + COMPLETE
                newer = begin(suite, two) + reserve(5) + COMPLETE
                self.assert_state(suite, disk_with(older, newer), two, limit=5)
                self.assert_state(suite, disk_with(newer, older), two, limit=5)
                # The greater generation counts only if its bank is complete.
                cut = newer[:-1]
                self.assert_state(suite, disk_with(older, cut), one, limit=99)
                self.assert_state(suite, disk_with(cut, older), one, limit=99)

    def test_no_complete_bank(self):
        for suite in SUITES:
            first, key = begin(suite), public(suite, 1)
            other = STANDARD if suite is SMALL else SMALL
            wrong = ([], [0] * 50, first, COMPLETE, COMPLETE + first, reserve(1) + first + COMPLETE,
                     first + write_record(2, [0]), first + COMPLETE[:-1], first + [9] + COMPLETE,
                     begin(other) + COMPLETE, begin(suite)[:-1] + [0] + COMPLETE,
                     write_record(1, []) + COMPLETE,
                     write_record(1, big(1, 4) + seed_of(suite)) + COMPLETE,
                     write_record(1, big(1, 4) + seed_of(suite) + [1]) + COMPLETE,
                     write_record(1, big(1, 4) + seed_of(suite) + [0] + key) + COMPLETE,
                     write_record(1, big(1, 4) + seed_of(suite) + [1] + key + [0]) + COMPLETE,
                     write_record(1, big(1, 4) + seed_of(suite) + [1] + key[1:]) + COMPLETE,
                     write_record(1, big(1, 4) + seed_of(suite) + [0, 0]) + COMPLETE)
            for data in wrong:
                for disk in (disk_with(data), disk_with([], data), disk_with(data, data)):
                    with self.assertRaises(Malformed):
                        Store(suite, disk)
                good = begin(suite, 3) + COMPLETE
                self.assert_state(suite, disk_with(data, good), 3)
                self.assert_state(suite, disk_with(good, data), 3)

    def test_records_in_their_order(self):
        for suite in SUITES:
            one, two = public(suite, 1), public(suite, 2)
            data = (begin(suite, 7, secret_of(suite)) + named(4, "b", one) + reserve(32) +
                    named(4, "a", two) + COMPLETE + named(5, "b", one) + reserve(16) +
                    named(4, "c", one) + named(5, "nobody", one) + COMPLETE)
            names = [("a", two), ("c", one)]
            self.assert_state(suite, disk_with(data), 7, names, 16, secret_of(suite))
            more = data + named(4, "a", one) + named(4, "b", two) + reserve(MOST)
            names = [("a", one), ("b", two), ("c", one)]
            self.assert_state(suite, disk_with(more), 7, names, MOST, secret_of(suite))

    def test_records_that_have_no_effect(self):
        for suite in SUITES:
            key = public(suite, 1)
            good = begin(suite) + named(4, "a", key) + reserve(16) + COMPLETE
            idle = (write_record(3, big(1, 7)), write_record(3, big(1, 9)), write_record(3, []),
                    write_record(2, [1]), begin(suite, 9, secret_of(suite)),
                    write_record(4, []), write_record(5, []), write_record(4, [1, 98]),
                    named(4, "b", key[1:]), named(4, "b", key + [0]), named(5, "a", key[1:]),
                    named(5, "a", key + [0]), named(4, "B", key), named(4, "", key),
                    named(4, "b" * 33, key), named(5, "A", key),
                    write_record(4, [2, 98] + key), write_record(4, [255, 98] + key),
                    named(1, "a", key), named(2, "a", key), named(3, "a", key))
            for record in idle:
                disk = disk_with(good + record + record)
                self.assert_state(suite, disk, 1, [("a", key)], 16)
                self.assertEqual(disk.read(0), good + record + record)

    def test_bytes_behind_the_good_length(self):
        for suite in SUITES:
            good = begin(suite, 4) + reserve(32) + COMPLETE
            for rest in ([0], [0] * 20, reserve(99)[:-1], [7] + reserve(99)):
                for other in ([], [5, 6], begin(suite, 3) + COMPLETE + [8]):
                    disk = disk_with(good + rest, other)
                    self.assert_state(suite, disk, 4, limit=32)
                    self.assertEqual((disk.read(0), disk.read(1)), (good, other))
                disk = disk_with([], good + rest)
                disk.arm(0)
                with self.assertRaises(PowerLost):
                    Store(suite, disk)
                self.assertEqual(disk.read(1), good + rest)
                disk.crash(0, 0)
                self.assert_state(suite, disk, 4, limit=32)
            # Nothing to cut: opening is no deed.
            disk = disk_with(good)
            disk.arm(0)
            self.assert_state(suite, disk, 4, limit=32)


class Numbers(HushCase):
    def plain_ephemeral(self, suite, number):
        data, found = list(b"hushlink ephemeral") + big(number, 8), []
        for count in range(8):
            found += suite.keyed(seed_of(suite), data + [count])
        return found[:suite.key_size]

    def test_ephemeral(self):
        for suite in SUITES:
            _, store = new_store(suite)
            for number in range(20):
                for wrong in (-1, number, number + 1, MOST):
                    self.assert_out_of_range(store.ephemeral, wrong)
                expected = self.plain_ephemeral(suite, number)
                if number % 2:
                    self.assertEqual(store.fresh(), expected)
                else:
                    self.assertEqual(store.next_number(), number)
                self.assert_fresh(store.ephemeral, number)
                self.assertEqual(store.ephemeral(number), expected)
                self.assertEqual(store.ephemeral(0), self.plain_ephemeral(suite, 0))

    def test_parts(self):
        """As many parts as the key needs, and no more."""
        for size, many in ((5, 4), (7, 3), (8, 2), (16, 1)):
            asked = []

            class Short(SmallSuite):
                def keyed(self, key, data):
                    asked.append((key, data))
                    return super().keyed(key, data)[:size]
            _, store = new_store(Short())
            data = list(b"hushlink ephemeral") + [0] * 8
            parts = [SMALL.keyed(seed_of(SMALL), data + [count])[:size] for count in range(many)]
            self.assertEqual(store.fresh(), sum(parts, [])[:16])
            self.assertEqual(asked, [(seed_of(SMALL), data + [count]) for count in range(many)])

    def test_reserving(self):
        for suite in SUITES:
            disk = Counting()
            prepare(suite, disk, seed_of(suite), None)
            store, expected = Store(suite, disk), begin(suite) + COMPLETE
            for number in range(40):
                disk.deeds = []
                self.assertEqual(store.next_number(), number)
                deeds = []
                if number % 16 == 0:
                    record = reserve(number + 16)
                    expected += record
                    deeds = [("write", 0, len(record)), ("settle", 0)]
                self.assertEqual((disk.deeds, disk.read(0)), (deeds, expected))
                self.assertEqual(store.state()[4:], (number + 1, number // 16 * 16 + 16))

    def test_several_stores(self):
        drawn = random.Random(1)
        for suite in SUITES:
            disk, store = new_store(suite)
            limit, given = 0, []
            for _ in range(20):
                for _ in range(drawn.choice((0, 1, 3, 16, 17))):
                    given.append(store.next_number())
                limit = store.state()[5]
                if drawn.randrange(2):
                    disk.crash(drawn.randrange(3), drawn.randrange(3))
                store = Store(suite, disk)
                self.assertEqual(store.state()[4:], (limit, limit))
            self.assertEqual(given, sorted(set(given)))

    def test_the_last_numbers(self):
        for suite in SUITES:
            for limit in (MOST, MOST - 1, MOST - 15):
                store = Store(suite, disk_with(begin(suite) + reserve(limit) + COMPLETE))
                before = store.state()
                for _ in range(2):
                    with self.assertRaises(Exhausted):
                        store.next_number()
                    with self.assertRaises(Exhausted):
                        store.fresh()
                    self.assertEqual(store.state(), before)
            store = Store(suite, disk_with(begin(suite) + reserve(MOST - 16) + COMPLETE))
            self.assertEqual([store.next_number() for _ in range(16)],
                             list(range(MOST - 16, MOST)))
            with self.assertRaises(Exhausted):
                store.next_number()

    def test_power_lost_while_reserving(self):
        for deeds in (0, 1):
            for many in range(len(reserve(16)) + 2):
                for torn in (0, 1, 99):
                    disk, store = new_store(SMALL)
                    disk.arm(deeds)
                    before = store.state()
                    for call in (store.next_number, store.fresh):
                        with self.assertRaises(PowerLost):
                            call()
                        self.assertEqual(store.state(), before)
                    self.assert_out_of_range(store.ephemeral, 0)
                    disk.crash(many, torn)
                    opened = Store(SMALL, disk)
                    limit = 16 if deeds == 1 and many >= len(reserve(16)) else 0
                    self.assertEqual(opened.next_number(), limit)
                    good = begin(SMALL) + COMPLETE + reserve(16) * (limit // 16)
                    self.assertEqual(disk.read(0), good + reserve(limit + 16))


class Names(HushCase):
    def test_keep_and_release(self):
        for suite in SUITES:
            disk = Counting()
            prepare(suite, disk, seed_of(suite), None)
            store, one, two = Store(suite, disk), public(suite, 1), public(suite, 2)
            expected = begin(suite) + COMPLETE
            disk.deeds = []
            self.assertIs(self.assert_keeps(store.keep_name, "bob", one), True)
            expected += named(4, "bob", one)
            self.assertIs(store.keep_name("ann", one), True)
            expected += named(4, "ann", one)
            deeds = [("write", 0, len(named(4, "bob", one))), ("settle", 0)]
            self.assertEqual((disk.read(0), disk.deeds), (expected, deeds * 2))
            self.assertIs(store.keep_name("bob", one), False)
            with self.assertRaises(Refused):
                store.keep_name("bob", two)
            self.assertEqual((disk.read(0), disk.deeds), (expected, deeds * 2))
            self.assertIs(store.keep_name("cleo", two), True)
            self.assertEqual(store.names(), [("ann", one), ("bob", one), ("cleo", two)])
            self.assertEqual(store.key_names(one), ["ann", "bob"])
            self.assertEqual(store.key_names(two), ["cleo"])
            self.assertEqual(store.key_names(public(suite, 3)), [])
            self.assertEqual(store.name_key("bob"), one)
            self.assertIsNone(store.name_key("dora"))
            for name, key in (("bob", two), ("dora", one)):
                with self.assertRaises(Refused):
                    store.release(name, key)
            self.assertIsNone(self.assert_keeps(store.release, "bob", one))
            expected += named(4, "cleo", two) + named(5, "bob", one)
            self.assertEqual(disk.read(0), expected)
            self.assertIsNone(store.name_key("bob"))
            with self.assertRaises(Refused):
                store.release("bob", one)
            self.assertIs(store.keep_name("bob", two), True)
            names = (("ann", tuple(one)), ("bob", tuple(two)), ("cleo", tuple(two)))
            self.assertEqual(store.state(), (1, tuple(seed_of(suite)), None, names, 0, 0))
            self.assertEqual(Store(suite, disk).state(), store.state())

    def test_errors_in_their_order(self):
        for suite in SUITES:
            disk, store = new_store(suite)
            key, zero = public(suite, 1), [0] * suite.key_size
            for number in range(64):
                store.keep_name("n" + str(number), public(suite, number % 3))
            disk.arm(0)
            before = store.state()
            wrong_keys = (([], OutOfRange), (key[1:], OutOfRange), (key + [0], OutOfRange),
                          (zero, Malformed), ([255] * suite.key_size, Malformed))
            for call in (store.keep_name, store.release):
                for name in ("", "a" * 33, "Ann", "a b"):
                    for wrong, _ in wrong_keys:
                        self.assertRaises(Malformed, call, name, wrong)
                for wrong, error in wrong_keys:
                    self.assertRaises(error, call, "n0", wrong)
                    self.assertRaises(error, call, "new", wrong)
            self.assertRaises(Refused, store.keep_name, "n0", key)
            self.assertRaises(Exhausted, store.keep_name, "new", key)
            self.assertRaises(Refused, store.release, "n0", key)
            self.assertRaises(Refused, store.release, "new", key)
            self.assertRaises(PowerLost, store.release, "n1", key)
            self.assertRaises(PowerLost, store.pack)
            self.assertIs(store.keep_name("n1", key), False)
            self.assertEqual(store.state(), before)

    def test_the_most_names(self):
        for suite in SUITES:
            disk, store = new_store(suite)
            keys = [public(suite, number) for number in range(3)]
            for number in range(64):
                self.assertIs(store.keep_name("n" + str(number), keys[number % 3]), True)
            for _ in range(2):
                with self.assertRaises(Exhausted):
                    store.keep_name("more", keys[0])
            self.assertIs(store.keep_name("n63", keys[0]), False)
            with self.assertRaises(Refused):
                store.keep_name("n63", keys[1])
            store.release("n5", keys[2])
            self.assertIs(store.keep_name("more", keys[0]), True)
            self.assertEqual(len(Store(suite, disk).names()), 64)

    def test_lists_are_their_own(self):
        for suite in SUITES:
            seed, secret, key = seed_of(suite), secret_of(suite), public(suite, 1)
            disk = Disk()
            prepare(suite, disk, seed, secret)
            store = Store(suite, disk)
            store.keep_name("ann", key)
            expected = store.state()
            for value in (seed, secret, key):
                spoil(value)
            for call in (store.seed, store.secret, store.names):
                self.assert_fresh(call)
                spoil(call())
            self.assert_fresh(store.name_key, "ann")
            self.assert_fresh(store.key_names, public(suite, 1))
            self.assert_keeps(store.key_names, public(suite, 1))
            self.assertEqual(store.state(), expected)
            self.assertEqual(Store(suite, disk).state(), expected)


class Packing(HushCase):
    def test_pack(self):
        for suite in SUITES:
            for secret in (None, secret_of(suite)):
                disk = Counting()
                prepare(suite, disk, seed_of(suite), secret)
                store, names = Store(suite, disk), {}
                for number, name in enumerate(("bob", "ann", "-", "0")):
                    names[name] = public(suite, number % 2)
                    store.keep_name(name, names[name])
                store.keep_name("gone", names["bob"])
                store.release("gone", names["bob"])
                store.next_number()
                before, first = store.state(), disk.read(0)
                for generation in (2, 3, 4):
                    other = generation % 2
                    data = packed(suite, generation, secret, 16, names)
                    disk.deeds = []
                    self.assertIsNone(store.pack())
                    bank = 1 - other
                    self.assertEqual(disk.deeds, [("cut", bank, 0), ("write", bank, len(data)),
                                                  ("settle", bank)])
                    self.assertEqual(disk.read(bank), data)
                    self.assertEqual(store.state(), (generation,) + before[1:])
                    opened = Store(suite, disk)
                    self.assertEqual(kept(opened), kept(store))
                    if generation == 2:
                        self.assertEqual(disk.read(0), first)
                disk.deeds = []
                store.next_number()
                self.assertEqual(disk.deeds, [])
                store.keep_name("more", names["ann"])
                record = named(4, "more", names["ann"])
                self.assertEqual(disk.deeds, [("write", 1, len(record)), ("settle", 1)])

    def test_what_pending_bytes_do(self):
        """Bytes of somebody else that wait make a deed impossible, and change nothing."""
        disk, store = new_store(SMALL)
        disk.write(0, [1])
        before = store.state()
        self.assertRaises(OutOfOrder, store.pack)
        self.assertEqual(store.state(), before)

    def filled(self, suite, rest, names=None, limit=0):
        """A store of which one bank has only so much room left."""
        start = packed(suite, 1, None, limit, names or {})
        size = 65536 - len(start) - rest
        idle = []
        while size > 0:
            body = min(size - 8, 65535)
            # What is left must have room for a record of its own, or be nothing.
            if 0 < size - 8 - body < 8:
                body -= 8
            idle += write_record(2, [9] * body)
            size -= body + 8
        disk = Counting()
        disk.write(0, start + idle)
        disk.settle(0)
        disk.deeds = []
        return disk, Store(suite, disk)

    def test_a_bank_that_gets_full(self):
        for suite in SUITES:
            for call, record in ((lambda store: store.next_number(), reserve(16)),
                                 (lambda store: store.keep_name("ann", public(suite, 1)),
                                  named(4, "ann", public(suite, 1))),
                                 (lambda store: store.release("bob", public(suite, 2)),
                                  named(5, "bob", public(suite, 2)))):
                names = {"bob": public(suite, 2)}
                disk, store = self.filled(suite, len(record), names)
                call(store)
                self.assertEqual(disk.deeds, [("write", 0, len(record)), ("settle", 0)])
                self.assertEqual(len(disk.read(0)), 65536)
                self.assertEqual(Store(suite, disk).state()[0], 1)
                disk, store = self.filled(suite, len(record) - 1, names)
                call(store)
                data = packed(suite, 2, None, 0, names)
                self.assertEqual(disk.deeds, [("cut", 1, 0), ("write", 1, len(data)),
                                              ("settle", 1), ("write", 1, len(record)),
                                              ("settle", 1)])
                self.assertEqual(disk.read(1), data + record)
                self.assertEqual(kept(Store(suite, disk)), kept(store))
                self.assertEqual(store.state()[0], 2)

    def test_a_store_that_packs_itself_by_use(self):
        disk, store = new_store(SMALL)
        key = public(SMALL, 1)
        for number in range(3000):
            self.assertIs(store.keep_name("ann", key), True)
            store.release("ann", key)
            if number % 100 == 0:
                self.assertEqual(kept(Store(SMALL, disk)), kept(store))
        self.assertEqual(store.state()[0], 3)
        self.assertLessEqual(max(len(disk.read(0)), len(disk.read(1))), 65536)

    def test_no_room_even_then(self):
        data, names = full_bank(SMALL, 15)
        disk = disk_with(data)
        store = Store(SMALL, disk)
        self.assertEqual(len(store.names()), len(names))
        for generation in (2, 3):
            with self.assertRaises(Exhausted):
                store.next_number()
            self.assertEqual(store.state()[0], generation)
            self.assertEqual(store.state()[4:], (0, 0))
            self.assertEqual(len(disk.read(generation % 2 == 0)), 65536 - 15)
        name = sorted(names)[0]
        with self.assertRaises(Exhausted):
            store.release(name, names[name])
        self.assertEqual(store.name_key(name), names[name])
        self.assertEqual(kept(Store(SMALL, disk)), kept(store))
        # With one byte more there is room.
        data, names = full_bank(SMALL, 16)
        disk = disk_with(data)
        store = Store(SMALL, disk)
        self.assertEqual(store.next_number(), 0)
        self.assertEqual((store.state()[0], len(disk.read(0))), (1, 65536))
        with self.assertRaises(Exhausted):
            store.release(sorted(names)[0], public(SMALL, 1))

    def test_a_store_that_can_not_be_packed(self):
        # Without the reserve record that packing adds it fits.
        data, names = full_bank(SMALL, -16)
        size = len(begin(SMALL))
        disk = disk_with(data[:size] + data[size + len(reserve(0)):])
        store = Store(SMALL, disk)
        before = store.state(), disk.read(0), disk.read(1)
        self.assertEqual(len(disk.read(0)), 65536)
        for call in (store.pack, lambda: store.release(sorted(names)[0], public(SMALL, 1)),
                     store.next_number):
            with self.assertRaises(Exhausted):
                call()
            self.assertEqual((store.state(), disk.read(0), disk.read(1)), before)

    def test_a_packed_store_that_fills_a_bank(self):
        data, names = full_bank(SMALL, 0)
        store = Store(SMALL, disk_with(data))
        store.pack()
        self.assertEqual((store.state()[0], len(store.disk.read(1))), (2, 65536))
        self.assertEqual(Store(SMALL, store.disk).names(), sorted(names.items()))

    def test_the_last_generation(self):
        disk = disk_with(begin(SMALL, 2 ** 32 - 2) + COMPLETE)
        store = Store(SMALL, disk)
        store.pack()
        self.assertEqual(store.state()[0], 2 ** 32 - 1)
        before = store.state(), disk.read(0), disk.read(1)
        with self.assertRaises(Exhausted):
            store.pack()
        self.assertEqual((store.state(), disk.read(0), disk.read(1)), before)

    def test_generations_that_grow(self):
        for generation in (254, 255, 256, 65535):
            store = Store(SMALL, disk_with(begin(SMALL, generation) + COMPLETE))
            store.pack()
            store.pack()
            self.assertEqual(store.state()[0], generation + 2)
            self.assertEqual(Store(SMALL, store.disk).state()[0], generation + 2)

    def test_power_lost_while_packing(self):
        names = {"ann": public(SMALL, 1), "bob": public(SMALL, 2)}
        secret = secret_of(SMALL)
        data = packed(SMALL, 2, secret, 16, names)
        for deeds in (0, 1, 2):
            for many in range(len(data) + 2):
                for torn in (0, 1, 999):
                    disk, store = new_store(SMALL, secret)
                    for name, key in names.items():
                        store.keep_name(name, key)
                    store.next_number()
                    # The other bank has something old.
                    disk.write(1, [1, 2, 3])
                    disk.settle(1)
                    before = store.state()
                    disk.arm(deeds)
                    with self.assertRaises(PowerLost):
                        store.pack()
                    self.assertEqual(store.state(), before)
                    disk.crash(many, torn)
                    opened = Store(SMALL, disk)
                    self.assertEqual(kept(opened), kept(store))
                    whole = deeds == 2 and many >= len(data)
                    self.assertEqual(opened.state()[0], 2 if whole else 1)
                    opened.pack()
                    self.assertEqual(kept(Store(SMALL, disk)), kept(store))
                if deeds < 2:
                    break


def full_bank(suite, rest):
    """A packed store that leaves rest bytes of a bank, and its names."""
    key, names = public(suite, 1), {}
    size = 65536 - rest - len(packed(suite, 1, None, 0, {}))
    fixed = len(named(4, "", key))
    many = size // (fixed + 32) + 1
    # As many names as are needed, the length of each one as even as possible.
    for number in range(many):
        length = (size - sum(fixed + len(name) for name in names)) // (many - number) - fixed
        names[str(number) + "a" * (length - len(str(number)))] = key
    data = packed(suite, 1, None, 0, names)
    assert len(data) == 65536 - rest
    return data, names


class AfterCrashes(HushCase):
    def test_calls_on_a_store_from_before(self):
        for suite in SUITES:
            key, other = public(suite, 1), public(suite, 2)
            disk, store = new_store(suite)
            store.keep_name("ann", key)
            store.next_number()
            disk.crash(0, 0)
            disk.arm(0)
            before, data = store.state(), disk.read(0)
            for call in (store.next_number, store.fresh, store.pack,
                         lambda: store.keep_name("bob", key), lambda: store.keep_name("ann", other),
                         lambda: store.release("ann", key), lambda: store.release("ann", other),
                         lambda: store.release("bob", key)):
                with self.assertRaises(OutOfOrder):
                    call()
            zero = [0] * suite.key_size
            for call in (store.keep_name, store.release):
                self.assertRaises(Malformed, call, "Ann", key)
                self.assertRaises(OutOfRange, call, "ann", key[1:])
                self.assertRaises(Malformed, call, "ann", zero)
            self.assertIs(store.keep_name("ann", key), False)
            self.assertEqual(store.ephemeral(0), Store(suite, disk).suite.keyed(
                seed_of(suite), list(b"hushlink ephemeral") + [0] * 9)[:suite.key_size])
            self.assertEqual((store.seed(), store.secret()), (seed_of(suite), None))
            self.assertEqual(store.name_key("ann"), key)
            self.assertEqual(store.key_names(key), ["ann"])
            self.assertEqual((store.state(), disk.read(0)), (before, data))

    def test_a_store_of_a_disk_that_has_crashed_before(self):
        disk, _ = new_store(SMALL)
        disk.crash(0, 0)
        disk.crash(0, 0)
        store = Store(SMALL, disk)
        self.assertEqual(store.next_number(), 0)
        disk.crash(0, 0)
        self.assertRaises(OutOfOrder, store.next_number)

    def test_power_lost_at_each_deed(self):
        key, other = public(SMALL, 1), public(SMALL, 2)
        calls = ((lambda store: store.keep_name("bob", other), named(4, "bob", other),
                  {"ann": key, "bob": other}),
                 (lambda store: store.release("ann", key), named(5, "ann", key), {}))
        for call, record, after in calls:
            for deeds in (0, 1):
                for many in range(len(record) + 2):
                    for torn in (0, 1, 99):
                        disk, store = new_store(SMALL)
                        store.keep_name("ann", key)
                        good, before = disk.read(0), store.state()
                        disk.arm(deeds)
                        for _ in range(2):
                            self.assertRaises(PowerLost, call, store)
                            self.assertEqual(store.state(), before)
                        disk.crash(many, torn)
                        opened = Store(SMALL, disk)
                        whole = deeds == 1 and many >= len(record)
                        self.assertEqual(opened.names(), sorted(
                            after.items() if whole else {"ann": key}.items()))
                        self.assertEqual(disk.read(0), good + record if whole else good)

    def test_power_lost_while_a_full_bank_is_packed(self):
        """Five deeds: the three of packing, and the two of the record."""
        key = public(SMALL, 1)
        record = named(4, "bob", key)
        start = begin(SMALL) + named(4, "ann", key) + COMPLETE
        start += write_record(2, [9] * (65536 - len(start) - 8))
        for deeds in range(6):
            for many in (0, 1, 30, 99, 99999):
                disk = disk_with(start)
                store = Store(SMALL, disk)
                disk.arm(deeds)
                if deeds < 5:
                    self.assertRaises(PowerLost, store.keep_name, "bob", key)
                    self.assertEqual(store.names(), [("ann", key)])
                else:
                    self.assertIs(store.keep_name("bob", key), True)
                self.assertEqual(store.state()[0], 1 if deeds < 3 else 2)
                disk.crash(many, 3)
                opened = Store(SMALL, disk)
                whole = deeds == 5 or (deeds == 4 and many >= len(record))
                self.assertEqual([name for name, _ in opened.names()],
                                 ["ann", "bob"] if whole else ["ann"])
                packed_now = deeds > 2 or (deeds == 2 and many >= 81)
                self.assertEqual(opened.state()[0], 2 if packed_now else 1)


class Drawn(HushCase):
    def test_stores_with_crashes(self):
        drawn = random.Random(21)
        keys = [public(SMALL, number) for number in range(3)]
        for _ in range(60):
            disk, store = new_store(SMALL)
            names, given, last = {}, [], None
            for _ in range(60):
                if drawn.randrange(6) == 0:
                    disk.arm(drawn.randrange(6))
                word = drawn.choice(("number", "number", "keep", "keep", "release", "pack"))
                name, key = drawn.choice("abc"), drawn.choice(keys)
                last, wanted = None, dict(names)
                try:
                    if word == "number":
                        given.append(store.next_number())
                    elif word == "keep":
                        wanted.setdefault(name, key)
                        store.keep_name(name, key)
                    elif word == "release":
                        wanted.pop(name, None)
                        store.release(name, key)
                    else:
                        store.pack()
                    names = wanted
                except PowerLost:
                    last = wanted
                except HushError:
                    pass
                self.assertEqual(store.names(), sorted(names.items()))
                if last is not None or drawn.randrange(20) == 0:
                    disk.crash(drawn.choice((0, 5, 40, 9999)), drawn.randrange(9))
                    store = Store(SMALL, disk)
                    found = dict(store.names())
                    self.assertIn(found, [names] if last is None else [names, last])
                    names = found
            self.assertEqual(given, sorted(set(given)))


if __name__ == "__main__":
    unittest.main()
