import unittest

from hushlink.accepting import accepts, check_rule
from hushlink.disk import Disk
from hushlink.store import Store, prepare
from hushlink.suites import SmallSuite, StandardSuite
from support import HushCase, some_bytes

SUITES = (StandardSuite(), SmallSuite())


def public(suite, number):
    return suite.public(some_bytes(suite.key_size, 50 + number))


def some_store(suite):
    """A store in which ann has the key 1, and bob and cleo have the key 2."""
    disk = Disk()
    prepare(suite, disk, some_bytes(suite.key_size), None)
    store = Store(suite, disk)
    store.keep_name("ann", public(suite, 1))
    store.keep_name("bob", public(suite, 2))
    store.keep_name("cleo", public(suite, 2))
    return store


class Accepting(HushCase):
    def check(self, make_rule, expected):
        """expected is a dict of the accepted numbers of keys for each expected name."""
        for suite in SUITES:
            store = some_store(suite)
            store.disk.arm(0)
            before = store.state()
            for name, numbers in expected.items():
                for number in (None, 1, 2, 3):
                    key = None if number is None else public(suite, number)
                    found = self.assert_keeps(lambda rule, given: accepts(rule, store, name, given),
                                              make_rule(suite), key)
                    self.assertIs(found, number in numbers, (name, number))
            self.assertEqual(store.state(), before)

    def test_any(self):
        every = (None, 1, 2, 3)
        self.check(lambda suite: ("any",), {None: every, "ann": every, "dora": every})

    def test_nobody(self):
        self.check(lambda suite: ("nobody",), {None: (None,), "ann": (None,), "dora": (None,)})

    def test_pinned(self):
        self.check(lambda suite: ("pinned", [public(suite, 3), public(suite, 1)]),
                   {None: (1, 3), "ann": (1, 3), "bob": (1, 3), "dora": (1, 3)})
        self.check(lambda suite: ("pinned", []), {None: (), "ann": ()})

    def test_names(self):
        self.check(lambda suite: ("names",),
                   {None: (1, 2), "ann": (1,), "bob": (2,), "cleo": (2,), "dora": ()})

    def test_first(self):
        self.check(lambda suite: ("first",),
                   {None: (1, 2, 3), "ann": (1,), "bob": (2,), "dora": (1, 2, 3)})

    def test_after_a_release(self):
        for suite in SUITES:
            store = some_store(suite)
            store.release("ann", public(suite, 1))
            self.assertFalse(accepts(("names",), store, "ann", public(suite, 1)))
            self.assertFalse(accepts(("names",), store, None, public(suite, 1)))
            self.assertTrue(accepts(("first",), store, "ann", public(suite, 3)))


class Rules(HushCase):
    def test_rules(self):
        key = some_bytes(32)
        for rule in (("any",), ("nobody",), ("names",), ("first",), ("pinned", []),
                     ("pinned", [key]), ("pinned", [key, key]), ("pinned", [key] * 64)):
            self.assertIsNone(self.assert_keeps(check_rule, rule, 32))

    def test_what_is_no_rule(self):
        key = some_bytes(32)
        for rule in (None, (), "any", ["any"], ("other",), ("",), (None,), (5,), ("any", 1),
                     ("any", []), ("nobody", []), ("names", None), ("first", "ann"),
                     ("pinned",), ("pinned", None), ("pinned", "ab"), ("pinned", 5), ("pinned", {}),
                     ("pinned", [], []), ("pinned", key), ("pinned", [[]]), ("pinned", [None]),
                     ("pinned", ["ab"]), ("pinned", [key, 5]), ("Any",), 7, {"any": 1},
                     ("first", []), ("pinned", (key,))):
            self.assert_out_of_range(check_rule, rule, 32)

    def test_numbers_of_keys(self):
        key = some_bytes(16)
        check_rule(("pinned", [key] * 64), 16)
        self.assert_out_of_range(check_rule, ("pinned", [key] * 65), 16)

    def test_lengths_of_keys(self):
        for size in (16, 32):
            key = some_bytes(size)
            check_rule(("pinned", [key]), size)
            for wrong in ([], key[1:], key + [0], some_bytes(48 - size)):
                self.assert_out_of_range(check_rule, ("pinned", [wrong]), size)
                self.assert_out_of_range(check_rule, ("pinned", [key, wrong]), size)

    def test_what_is_no_byte(self):
        for wrong in (256, -1, True, None, "a"):
            self.assert_out_of_range(check_rule, ("pinned", [[0] * 15 + [wrong]]), 16)


if __name__ == "__main__":
    unittest.main()
