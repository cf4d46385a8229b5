import unittest

from hushlink.errors import Exhausted, NotAuthentic
from hushlink.numbered import NumberedKey, three_values, two_values
from hushlink.suites import SmallSuite, StandardSuite
from support import HushCase, some_bytes, spoil

SUITES = (StandardSuite(), SmallSuite())
LAST = 2 ** 64 - 1


def key_of(suite):
    return some_bytes(suite.key_size)


class FarSuite(SmallSuite):
    """A suite whose sealing does not mind its arguments."""

    def seal(self, key, number, data, text):
        return [number % 256]

    def open_sealed(self, key, number, data, sealed):
        return [number % 256]


def far_key(number):
    """A numbered key whose next number is far away."""
    key = NumberedKey(FarSuite(), [1] * 16)
    places = [name for name, value in vars(key).items() if value == 0]
    for name in places:
        setattr(key, name, number)
    assert key.number() == number
    return key


class WithoutKey(HushCase):
    def test_texts_stay_as_they_are(self):
        for suite in SUITES:
            key = NumberedKey(suite, None)
            self.assertIs(key.has_key(), False)
            self.assertEqual(key.seal([1], [2, 3]), [2, 3])
            self.assertEqual(key.open_sealed([1], [2, 3]), [2, 3])
            self.assertEqual(key.seal([], []), [])
            self.assertEqual(key.number(), 0)
            self.assertEqual(key.state(), (None, 0))

    def test_nothing_is_checked(self):
        key = NumberedKey(StandardSuite(), None)
        long = [0] * 1048577
        self.assertEqual(key.seal(long, long), long)
        self.assertEqual(key.open_sealed(None, [7]), [7])
        self.assertEqual(key.seal(None, [7]), [7])

    def test_the_text_is_copied(self):
        key = NumberedKey(SmallSuite(), None)
        self.assert_fresh(key.seal, [1], [2, 3])
        self.assert_fresh(key.open_sealed, [1], [2, 3])


class WithKey(HushCase):
    def test_numbers_grow(self):
        for suite in SUITES:
            writer, reader = NumberedKey(suite, key_of(suite)), NumberedKey(suite, key_of(suite))
            self.assertIs(writer.has_key(), True)
            for number in range(5):
                self.assertEqual(writer.number(), number)
                self.assertEqual(writer.state(), (tuple(key_of(suite)), number))
                sealed = writer.seal([number], [7] * number)
                self.assertEqual(sealed, suite.seal(key_of(suite), number, [number], [7] * number))
                self.assertEqual(reader.number(), number)
                self.assertEqual(reader.open_sealed([number], sealed), [7] * number)
                self.assertEqual(reader.number(), number + 1)

    def test_sealing_and_opening_share_the_number(self):
        suite = SmallSuite()
        key = NumberedKey(suite, key_of(suite))
        key.seal([], [1])
        sealed = suite.seal(key_of(suite), 1, [], [2])
        self.assertEqual(key.open_sealed([], sealed), [2])
        self.assertEqual(key.seal([], [3]), suite.seal(key_of(suite), 2, [], [3]))
        self.assertEqual(key.number(), 3)

    def test_what_does_not_open_uses_no_number(self):
        for suite in SUITES:
            reader = NumberedKey(suite, key_of(suite))
            sealed = suite.seal(key_of(suite), 0, [1], [2])
            for data, wrong in (([1], sealed[:-1] + [sealed[-1] ^ 1]), ([], sealed), ([1], []),
                                ([1], suite.seal(key_of(suite), 1, [1], [2]))):
                with self.assertRaises(NotAuthentic):
                    reader.open_sealed(data, wrong)
                self.assertEqual(reader.state(), (tuple(key_of(suite)), 0))
            self.assertEqual(reader.open_sealed([1], sealed), [2])
            self.assertEqual(reader.number(), 1)
            with self.assertRaises(NotAuthentic):
                reader.open_sealed([1], sealed)
            self.assertEqual(reader.number(), 1)

    def test_what_is_too_long_uses_no_number(self):
        for suite in SUITES:
            key = NumberedKey(suite, key_of(suite))
            self.assert_out_of_range(key.seal, [], [0] * 1048577)
            self.assert_out_of_range(key.seal, [0] * 1048577, [])
            self.assert_out_of_range(key.open_sealed, [], [0] * (1048577 + suite.tag_size))
            self.assertEqual(key.number(), 0)

    def test_the_last_number(self):
        key = far_key(LAST - 2)
        self.assertEqual(key.seal([], []), [253])
        self.assertEqual(key.open_sealed([], []), [254])
        self.assertEqual(key.number(), LAST)
        state = key.state()
        for arguments in (([], []), (None, None), ([0] * 1048577, [0] * 1048577)):
            with self.assertRaises(Exhausted):
                key.seal(*arguments)
            with self.assertRaises(Exhausted):
                key.open_sealed(*arguments)
            with self.assertRaises(Exhausted):
                key.twin().seal(*arguments)
        self.assertEqual(key.state(), state)

    def test_lengths_of_keys(self):
        for suite in SUITES:
            for length in (0, 1, suite.key_size - 1, suite.key_size + 1):
                self.assert_out_of_range(NumberedKey, suite, [1] * length)

    def test_twins_do_not_affect_each_other(self):
        suite = SmallSuite()
        key = NumberedKey(suite, key_of(suite))
        key.seal([], [])
        twin = key.twin()
        self.assertIsInstance(twin, NumberedKey)
        self.assertEqual(twin.state(), key.state())
        twin.seal([], [])
        twin.seal([], [])
        self.assertEqual(key.number(), 1)
        key.seal([], [])
        self.assertEqual((key.number(), twin.number()), (2, 3))
        self.assertEqual(NumberedKey(suite, None).twin().state(), (None, 0))

    def test_what_is_passed_is_neither_changed_nor_kept(self):
        for suite in SUITES:
            key = key_of(suite)
            numbered = self.assert_keeps(lambda given: NumberedKey(suite, given), key)
            spoil(key)
            data, text = [1, 2], [3] * 9
            sealed = self.assert_keeps(numbered.seal, data, text)
            self.assertEqual(sealed, suite.seal(key_of(suite), 0, data, text))
            reader = NumberedKey(suite, key_of(suite))
            found = self.assert_keeps(reader.open_sealed, data, sealed)
            spoil(found)
            spoil(sealed)
            self.assertEqual(reader.state(), (tuple(key_of(suite)), 1))
            self.assertEqual(numbered.seal([], [4]), suite.seal(key_of(suite), 1, [], [4]))


class Values(HushCase):
    def test_against_the_formulas(self):
        for suite in SUITES:
            for chain in ([0] * suite.digest_size, some_bytes(suite.digest_size)):
                for data in ([], [5], some_bytes(suite.key_size, 2), some_bytes(200)):
                    k = suite.keyed(chain, data)
                    first = suite.keyed(k, [1])
                    second = suite.keyed(k, first + [2])
                    third = suite.keyed(k, second + [3])
                    self.assertEqual(two_values(suite, chain, data), (first, second))
                    self.assertEqual(three_values(suite, chain, data), (first, second, third))

    def test_two_values_keeps_its_arguments(self):
        for suite in SUITES:
            chain = some_bytes(suite.digest_size)
            self.assert_fresh(lambda one, other: two_values(suite, one, other), chain, [5])

    def test_three_values_keeps_its_arguments(self):
        for suite in SUITES:
            chain = some_bytes(suite.digest_size)
            self.assert_fresh(lambda one, other: three_values(suite, one, other), chain, [5])


if __name__ == "__main__":
    unittest.main()
