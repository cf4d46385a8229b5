import random
import unittest

from hushlink.errors import Malformed, NotAuthentic, OutOfRange
from hushlink.suites import SmallSuite, StandardSuite
from hushlink.watch import Log, WatchedSuite, clashes, coincidences, crossings, forgeries
from support import HushCase, some_bytes, spoil

STANDARD, SMALL = StandardSuite(), SmallSuite()
SUITES = (STANDARD, SMALL)
START = (-1, 0)
A, B = (0, 3, 0), (1, 4, 1)


class Logs(HushCase):
    def test_entries(self):
        log = Log()
        self.assertEqual(log.entries(), [])
        self.assertIsNone(log.add(("digest", A, (1,), (2,))))
        log.add(("public", B, (1,), (2,)))
        expected = [("digest", A, (1,), (2,)), ("public", B, (1,), (2,))]
        self.assertEqual(log.entries(), expected)
        self.assert_fresh(log.entries)
        spoil(log.entries())
        self.assertEqual(log.entries(), expected)


class Watched(HushCase):
    def test_fields(self):
        for suite in SUITES:
            watched = WatchedSuite(suite, Log(), 3)
            for field in ("name", "key_size", "tag_size", "digest_size", "block_size"):
                self.assertEqual(getattr(watched, field), getattr(suite, field))

    def calls(self, suite):
        """Each call, and its entry without the place."""
        size = suite.key_size
        secret, key = some_bytes(size, 2), some_bytes(size, 3)
        other = suite.public(some_bytes(size, 4))
        data, text = some_bytes(5, 5), some_bytes(9, 6)
        sealed = suite.seal(key, 7, data, text)
        public = suite.public(secret)
        shared = suite.exchange(secret, other)
        return (("seal", (key, 7, data, text), (tuple(key), 7, tuple(data), tuple(sealed))),
                ("open_sealed", (key, 7, data, sealed), (tuple(key), 7, tuple(data), tuple(sealed))),
                ("keyed", (key, data), (tuple(key), tuple(data), tuple(suite.keyed(key, data)))),
                ("digest", (data,), (tuple(data), tuple(suite.digest(data)))),
                ("public", (secret,), (tuple(secret), tuple(public))),
                ("exchange", (secret, other), (tuple(public), tuple(other), tuple(shared))),
                ("digest", ([],), ((), tuple(suite.digest([])))))

    def test_each_call(self):
        for suite in SUITES:
            log = Log()
            watched, other = WatchedSuite(suite, log, 2), WatchedSuite(suite, log, 5)
            expected = []
            for home, one in ((2, watched), (5, other)):
                for wire, side in (START, (0, 1), (15, 0)):
                    if (wire, side) != START:
                        log.go_to(wire, side)
                    elif home == 5:
                        continue
                    for word, arguments, rest in self.calls(suite):
                        found = self.assert_keeps(getattr(one, word), *arguments)
                        self.assertEqual(found, getattr(suite, word)(*arguments))
                        kind = "open" if word == "open_sealed" else word
                        expected.append((kind, (home, wire, side)) + rest)
                        self.assertEqual(log.entries(), expected)
                        spoil(found)
                        self.assertEqual(log.entries(), expected)

    def test_is_weak_has_no_entry(self):
        for suite in SUITES:
            log = Log()
            watched = WatchedSuite(suite, log, 0)
            zero = [0] * suite.key_size
            self.assertIs(watched.is_weak(zero), True)
            self.assertIs(watched.is_weak(suite.public(zero)), False)
            with self.assertRaises(OutOfRange):
                watched.is_weak([1])
            self.assertEqual(log.entries(), [])

    def test_calls_that_raise(self):
        for suite in SUITES:
            log = Log()
            watched = WatchedSuite(suite, log, 0)
            size = suite.key_size
            key, zero = some_bytes(size), [0] * size
            for error, call in ((OutOfRange, lambda: watched.public([1])),
                                (Malformed, lambda: watched.exchange(key, zero)),
                                (OutOfRange, lambda: watched.exchange(key, [1])),
                                (OutOfRange, lambda: watched.keyed([0] * 1025, [])),
                                (OutOfRange, lambda: watched.seal([1], 0, [], [])),
                                (OutOfRange, lambda: watched.seal(key, -1, [], [])),
                                (OutOfRange, lambda: watched.open_sealed(key, 2 ** 64, [], [])),
                                (NotAuthentic, lambda: watched.open_sealed(key, 0, [], [])),
                                (NotAuthentic, lambda: watched.open_sealed(key, 0, [], [0] * 50))):
                with self.assertRaises(error):
                    call()
                self.assertEqual(log.entries(), [])


def seal(place=A, key=(1,), number=0, data=(2,), sealed=(3,)):
    return ("seal", place, key, number, data, sealed)


def opened(place=A, key=(1,), number=0, data=(2,), sealed=(3,)):
    return ("open", place, key, number, data, sealed)


def keyed(key, data, result, place=A):
    return ("keyed", place, key, data, result)


def digest(data, result, place=A):
    return ("digest", place, data, result)


def public(secret, result, place=A):
    return ("public", place, secret, result)


def exchange(mine, other, result, place=A):
    return ("exchange", place, mine, other, result)


class Forgeries(HushCase):
    def test_what_was_sealed(self):
        self.assertEqual(forgeries([]), [])
        self.assertEqual(forgeries([seal(), opened()]), [])
        # The places do not matter, and it may be opened several times.
        self.assertEqual(forgeries([seal(), opened(B), opened(), opened()]), [])

    def test_what_was_not(self):
        for other in (opened(key=(9,)), opened(number=1), opened(data=()), opened(sealed=(3, 3)),
                      opened(B, sealed=())):
            self.assertEqual(forgeries([seal(), other]), [1])
            self.assertEqual(forgeries([other]), [0])
            self.assertEqual(forgeries([other, seal(), opened(), other]), [0, 3])
        # Only an earlier seal counts.
        self.assertEqual(forgeries([opened(), seal()]), [0])
        self.assertEqual(forgeries([opened(), seal(), opened()]), [0])
        # An entry of another kind is no seal.
        self.assertEqual(forgeries([keyed((1,), (2,), (3,)), opened()]), [1])
        self.assertEqual(forgeries([opened(), opened()]), [0, 1])

    def test_keeps(self):
        entries = [opened(), seal()]
        for function in (forgeries, coincidences, crossings, clashes):
            self.assert_keeps(function, entries)
            self.assert_fresh(function, [opened(), seal(), seal(), digest((1,), (2,)),
                                         digest((3,), (2,)), exchange((1,), (2,), (3,)),
                                         exchange((2,), (1,), (3,))])


class Coincidences(HushCase):
    def test_digests(self):
        same = digest((1,), (5,))
        self.assertEqual(coincidences([]), [])
        self.assertEqual(coincidences([same, digest((2,), (6,))]), [])
        # The same arguments are none, wherever they stand.
        self.assertEqual(coincidences([same, digest((1,), (5,), B), same]), [])
        for other in (digest((2,), (5,)), digest((), (5,), B), keyed((1,), (), (5,)),
                      keyed((), (1,), (5,))):
            self.assertEqual(coincidences([same, other]), [0, 1])
            self.assertEqual(coincidences([other, digest((9,), (9,)), same]), [0, 2])
            self.assertEqual(coincidences([same, same, other, same]), [0, 1, 2, 3])

    def test_keyed(self):
        one = keyed((1,), (2,), (5,))
        self.assertEqual(coincidences([one, one, keyed((1,), (2,), (5,), B)]), [])
        for other in (keyed((1, 0), (2,), (5,)), keyed((1,), (2, 2), (5,)), keyed((2,), (1,), (5,)),
                      keyed((1, 2), (), (5,))):
            self.assertEqual(coincidences([one, other]), [0, 1])
        self.assertEqual(coincidences([one, keyed((1,), (3,), (6,))]), [])

    def test_public(self):
        one = public((1,), (5,))
        self.assertEqual(coincidences([one, one, public((1,), (5,), B)]), [])
        self.assertEqual(coincidences([one, public((2,), (5,))]), [0, 1])
        self.assertEqual(coincidences([one, public((2,), (6,))]), [])

    def test_exchange(self):
        one = exchange((1,), (2,), (5,))
        self.assertEqual(coincidences([one, one, exchange((2,), (1,), (5,), B)]), [])
        for other in (exchange((1,), (3,), (5,)), exchange((3,), (2,), (5,)),
                      exchange((1,), (1,), (5,)), exchange((2,), (2,), (5,)),
                      exchange((2,), (3,), (5,))):
            self.assertEqual(coincidences([one, other]), [0, 1])
        self.assertEqual(coincidences([exchange((1,), (1,), (5,)), exchange((2,), (2,), (5,))]),
                         [0, 1])
        self.assertEqual(coincidences([one, exchange((1,), (3,), (6,))]), [])

    def test_other_kinds_with_the_same_result(self):
        result = (5,)
        entries = [digest((1,), result), public((2,), result), exchange((3,), (4,), result),
                   seal(sealed=result), opened(sealed=result), seal(key=(7,), sealed=result)]
        self.assertEqual(coincidences(entries), [])

    def test_the_beginning_of_a_label(self):
        codes = tuple(b"Noise_")
        for result in (codes, codes + (1, 2), codes * 2):
            self.assertEqual(coincidences([digest((1,), result)]), [0])
            self.assertEqual(coincidences([digest((7,), (8,)), keyed((1,), (2,), result)]), [1])
            # Only results of these kinds.
            self.assertEqual(coincidences([public((1,), result), exchange((1,), (2,), result),
                                           seal(sealed=result), opened(sealed=result)]), [])
        for result in (codes[:5], (1,) + codes, tuple(b"noise_"), tuple(b"Noise-"), ()):
            self.assertEqual(coincidences([digest((1,), result), keyed((1,), (2,), result + (3,))]),
                             [])


class Crossings(HushCase):
    def test_crossings(self):
        one, two = exchange((1,), (2,), (5,)), exchange((2,), (1,), (5,))
        self.assertEqual(crossings([]), [])
        self.assertEqual(crossings([one]), [])
        self.assertEqual(crossings([one, one]), [])
        self.assertEqual(crossings([one, two]), [0, 1])
        self.assertEqual(crossings([two, public((1,), (5,)), one, two]), [0, 2, 3])

    def test_places(self):
        one = exchange((1,), (2,), (5,), (0, 3, 0))
        for place, same in (((1, 4, 0), True), ((0, 3, 0), True), ((0, 3, 1), False),
                            ((7, -1, 1), False), ((7, -1, 0), True)):
            other = exchange((2,), (1,), (5,), place)
            self.assertEqual(crossings([one, other]), [0, 1] if same else [])

    def test_what_is_none(self):
        one = exchange((1,), (2,), (5,))
        for other in (exchange((2,), (1,), (6,)), exchange((2,), (3,), (5,)),
                      exchange((3,), (1,), (5,)), exchange((1,), (2,), (5,)),
                      keyed((2,), (1,), (5,))):
            self.assertEqual(crossings([one, other]), [])
        # Both keys are the same one.
        same = exchange((1,), (1,), (5,))
        self.assertEqual(crossings([same, same, exchange((1,), (1,), (5,), B)]), [])


class Clashes(HushCase):
    def test_clashes(self):
        self.assertEqual(clashes([]), [])
        self.assertEqual(clashes([seal()]), [])
        self.assertEqual(clashes([seal(), seal()]), [0, 1])
        self.assertEqual(clashes([seal(), opened(), seal(B, data=(), sealed=(9,)), seal(number=1),
                                  seal(key=(2,)), seal()]), [0, 2, 5])
        self.assertEqual(clashes([seal(), seal(number=1), seal(key=(2,)), opened(), opened()]), [])


class Drawn(HushCase):
    """Against the points 217 and 218, written down plainly over all pairs of entries."""

    def plain(self, entries):
        found = ([], [], [], [])
        for index, entry in enumerate(entries):
            kind = entry[0]
            others = entries[:index] + entries[index + 1:]
            if kind == "open" and not any(other[0] == "seal" and other[2:] == entry[2:]
                                          for other in entries[:index]):
                found[0].append(index)
            mixed = ("keyed", "digest")
            hit = kind in mixed and bytes(entry[-1][:6]) == b"Noise_"
            for other in others:
                if other[-1] != entry[-1]:
                    continue
                if kind in mixed and other[0] in mixed:
                    hit = hit or kind != other[0] or entry[2:] != other[2:]
                if kind == other[0] == "public":
                    hit = hit or entry[2:] != other[2:]
                if kind == other[0] == "exchange":
                    hit = hit or sorted(entry[2:4]) != sorted(other[2:4])
            if hit:
                found[1].append(index)
            if kind == "exchange" and any(
                    other[0] == kind and other[4] == entry[4] and other[1][2] == entry[1][2]
                    and other[2] == entry[3] and other[3] == entry[2] and entry[2] != entry[3]
                    for other in others):
                found[2].append(index)
            if kind == "seal" and any(other[0] == kind and other[2:4] == entry[2:4]
                                      for other in others):
                found[3].append(index)
        return found

    def test_drawn_logs(self):
        drawn = random.Random(8)

        def part():
            return (drawn.randrange(4),)
        for _ in range(300):
            entries = []
            for _ in range(drawn.randrange(12)):
                place = drawn.choice((A, B, (2, 4, 0)))
                kind = drawn.choice(("seal", "open", "keyed", "digest", "public", "exchange"))
                result = drawn.choice((part(), part(), part(), tuple(b"Noise_") + part()))
                if kind in ("seal", "open"):
                    entries.append((kind, place, part(), drawn.randrange(2), (), (1,)))
                elif kind in ("keyed", "exchange"):
                    entries.append((kind, place, part(), part(), result))
                else:
                    entries.append((kind, place, part(), result))
            found = (forgeries(entries), coincidences(entries), crossings(entries),
                     clashes(entries))
            self.assertEqual(found, self.plain(entries))


if __name__ == "__main__":
    unittest.main()
