import hashlib
import hmac
import unittest

from hushlink.errors import Malformed, NotAuthentic
from hushlink.exchange import exchange, public_key
from hushlink.suites import SmallSuite, StandardSuite
from plain_curve import P, STRONG, key_bytes, weak_keys, with_highest_bit
from plain_sealing import known_sealed
from plain_small import L, digest_of, keyed_of, public_of, sealed_of, shared_of
from support import HushCase, some_bytes, spoil

MOST = 1048576
MOST_NUMBER = 2 ** 64 - 1
SUITES = (StandardSuite(), SmallSuite())
LENGTHS = (0, 1, 6, 7, 8, 14, 15, 16, 17, 70)


def changed_at(data, place):
    return data[:place] + [data[place] ^ (1 << place % 8)] + data[place + 1:]


def small_key(number):
    return list(number.to_bytes(16, "little"))


class Fields(HushCase):
    def test_standard(self):
        suite = StandardSuite()
        self.assertEqual(suite.name, "25519_ChaChaPoly_SHA256")
        self.assertEqual((suite.key_size, suite.tag_size, suite.digest_size, suite.block_size),
                         (32, 16, 32, 64))

    def test_small(self):
        suite = SmallSuite()
        self.assertEqual(suite.name, "127_Mix_Mix")
        self.assertEqual((suite.key_size, suite.tag_size, suite.digest_size, suite.block_size),
                         (16, 8, 16, 16))

    def test_each_object_has_its_own(self):
        for kind in (StandardSuite, SmallSuite):
            self.assertLessEqual({"name", "key_size", "tag_size", "digest_size", "block_size"},
                                 set(vars(kind())))


class Properties(HushCase):
    def secrets(self, suite):
        size = suite.key_size
        return [some_bytes(size, k) for k in range(3)] + [[0] * size, [255] * size]

    def test_two_ends_share_one_secret(self):
        for suite in SUITES:
            for one in self.secrets(suite):
                for other in self.secrets(suite):
                    shared = suite.exchange(one, suite.public(other))
                    self.assertEqual(shared, suite.exchange(other, suite.public(one)))
                    self.assertEqual(len(shared), suite.key_size)

    def test_public_keys_are_never_weak(self):
        for suite in SUITES:
            for secret in self.secrets(suite) + [some_bytes(suite.key_size, k) for k in range(9, 20)]:
                public = suite.public(secret)
                self.assertEqual(len(public), suite.key_size)
                self.assertIs(suite.is_weak(public), False)

    def test_what_is_sealed_opens(self):
        for suite in SUITES:
            key = some_bytes(suite.key_size)
            for number in (0, 1, 255, 256, MOST_NUMBER):
                for one in LENGTHS:
                    data, text = some_bytes(one), some_bytes(70 - one, 2)
                    sealed = suite.seal(key, number, data, text)
                    self.assertEqual(len(sealed), len(text) + suite.tag_size)
                    self.assertEqual(suite.open_sealed(key, number, data, sealed), text)

    def test_one_byte_changed(self):
        for suite in SUITES:
            key = some_bytes(suite.key_size)
            for length in LENGTHS:
                data, text = some_bytes(length), some_bytes(length, 2)
                sealed = suite.seal(key, 5, data, text)
                for place in range(len(sealed)):
                    self.assert_closed(suite, key, 5, data, changed_at(sealed, place))
                for place in range(len(data)):
                    self.assert_closed(suite, key, 5, changed_at(data, place), sealed)
                for place in range(len(key)):
                    self.assert_closed(suite, changed_at(key, place), 5, data, sealed)
                for number in (0, 4, 6, 256 + 5, MOST_NUMBER):
                    self.assert_closed(suite, key, number, data, sealed)

    def test_bytes_that_are_moved_added_or_cut(self):
        for suite in SUITES:
            key = some_bytes(suite.key_size)
            sealed = suite.seal(key, 5, [1, 2], [3] * 20)
            for other in (sealed[1:], sealed[:-1], sealed + [0], [0] + sealed, sealed[::-1]):
                self.assert_closed(suite, key, 5, [1, 2], other)
            for data in ([], [1], [2, 1], [1, 2, 0], [1, 2] + sealed[:1]):
                self.assert_closed(suite, key, 5, data, sealed)
            self.assert_closed(suite, key, 5, [1, 2] + sealed[:1], sealed[1:])

    def test_too_few_bytes(self):
        for suite in SUITES:
            key = some_bytes(suite.key_size)
            whole = suite.seal(key, 0, [], [])
            for length in range(suite.tag_size):
                self.assert_closed(suite, key, 0, [], whole[:length])
                self.assert_closed(suite, key, 0, [], [0] * length)
            self.assertEqual(suite.open_sealed(key, 0, [], whole), [])

    def assert_closed(self, suite, *arguments):
        with self.assertRaises(NotAuthentic):
            suite.open_sealed(*arguments)


class Bounds(HushCase):
    def test_keys(self):
        for suite in SUITES:
            good = suite.public([1] * suite.key_size)
            for length in (0, 1, suite.key_size - 1, suite.key_size + 1, 2 * suite.key_size):
                wrong = [1] * length
                self.assert_out_of_range(suite.public, wrong)
                self.assert_out_of_range(suite.is_weak, wrong)
                self.assert_out_of_range(suite.exchange, wrong, good)
                self.assert_out_of_range(suite.exchange, wrong, None)
                self.assert_out_of_range(suite.exchange, [1] * suite.key_size, wrong)
                for function in (suite.seal, suite.open_sealed):
                    self.assert_out_of_range(function, wrong, 0, [], [0] * 16)
                    self.assert_out_of_range(function, wrong, None, None, None)
                    self.assert_out_of_range(function, wrong, -1, None, None)

    def test_lengths_come_before_weak_keys(self):
        for suite in SUITES:
            weak = [0] * suite.key_size
            self.assertIs(suite.is_weak(weak), True)
            self.assert_out_of_range(suite.exchange, [1] * (suite.key_size - 1), weak)
            self.assert_out_of_range(suite.exchange, [1] * (suite.key_size + 1), weak)
            self.assert_out_of_range(suite.exchange, [1] * suite.key_size, weak + [0])

    def test_numbers(self):
        for suite in SUITES:
            key = some_bytes(suite.key_size)
            for number in (-1, MOST_NUMBER + 1, 2 ** 70):
                for function in (suite.seal, suite.open_sealed):
                    self.assert_out_of_range(function, key, number, [], [0] * 16)
                    self.assert_out_of_range(function, key, number, None, None)

    def test_data(self):
        for suite in SUITES:
            key = some_bytes(suite.key_size)
            for function in (suite.seal, suite.open_sealed):
                self.assert_out_of_range(function, key, 0, [0] * (MOST + 1), [0] * 16)
                self.assert_out_of_range(function, key, 0, [0] * (MOST + 1), None)
                self.assert_out_of_range(function, key, 0, [0] * (MOST + 1), [])

    def test_texts(self):
        for suite in SUITES:
            key = some_bytes(suite.key_size)
            self.assert_out_of_range(suite.seal, key, 0, [], [0] * (MOST + 1))
            self.assert_out_of_range(suite.open_sealed, key, 0, [],
                                     [0] * (MOST + suite.tag_size + 1))

    def test_the_longest_data_and_text(self):
        for suite in SUITES:
            key = some_bytes(suite.key_size)
            data, text = [3] * MOST, [4] * MOST
            sealed = suite.seal(key, MOST_NUMBER, data, text)
            self.assertEqual(len(sealed), MOST + suite.tag_size)
            self.assertEqual(suite.open_sealed(key, MOST_NUMBER, data, sealed), text)

    def test_keys_of_keyed(self):
        for suite in SUITES:
            self.assertEqual(len(suite.keyed([1] * 1024, [2])), suite.digest_size)
            self.assert_out_of_range(suite.keyed, [1] * 1025, [2])
            self.assert_out_of_range(suite.keyed, [1] * 1025, None)

    def test_long_data_of_digests(self):
        for suite in SUITES:
            self.assertEqual(len(suite.digest([1] * 1048512)), suite.digest_size)
            self.assertEqual(len(suite.keyed([2], [1] * 1048512)), suite.digest_size)

    def test_nothing_that_is_passed_changes_and_what_is_returned_is_new(self):
        for suite in SUITES:
            size = suite.key_size
            public = suite.public([1] * size)
            sealed = suite.seal([1] * size, 0, [2], [3] * 9)
            calls = [(suite.public, [1] * size), (suite.exchange, [1] * size, public),
                     (suite.digest, [1] * 9), (suite.digest, []), (suite.keyed, [1] * 70, [2]),
                     (suite.keyed, [1] * 64, []), (suite.seal, [1] * size, 0, [2], [3] * 9),
                     (suite.seal, [1] * size, 0, [], []),
                     (suite.open_sealed, [1] * size, 0, [2], sealed)]
            for function, *arguments in calls:
                self.assert_keeps(function, *arguments)
                self.assert_fresh(function, *arguments)
            self.assert_keeps(suite.is_weak, public)
            self.assert_keeps(suite.is_weak, [0] * size)


class Standard(HushCase):
    suite = StandardSuite()

    def test_public_and_exchange_are_those_of_the_curve(self):
        for seed in range(3):
            secret = some_bytes(32, seed)
            self.assertEqual(self.suite.public(secret), public_key(secret))
            for u in STRONG:
                self.assertIs(self.suite.is_weak(key_bytes(u)), False)
                self.assertEqual(self.suite.exchange(secret, key_bytes(u)),
                                 exchange(secret, key_bytes(u)))

    def assert_weak(self, public):
        self.assertIs(self.suite.is_weak(public), True)
        with self.assertRaises(Malformed):
            self.suite.exchange([1] * 32, public)

    def test_points_of_small_order(self):
        for public in weak_keys():
            self.assert_weak(public)

    def test_keys_that_are_not_written_as_their_coordinate(self):
        for u in range(2, 19):
            self.assert_weak(key_bytes(P + u))
            self.assert_weak(with_highest_bit(key_bytes(P + u)))
        for u in STRONG:
            self.assert_weak(with_highest_bit(key_bytes(u)))
        self.assert_weak([255] * 32)

    def test_digest(self):
        for length in LENGTHS + (55, 64, 65):
            data = some_bytes(length)
            self.assertEqual(self.suite.digest(data), list(hashlib.sha256(bytes(data)).digest()))
            for size in (0, 32, 65, 1024):
                key = some_bytes(size)
                self.assertEqual(self.suite.keyed(key, data), list(
                    hmac.new(bytes(key), bytes(data), hashlib.sha256).digest()))

    def test_sealing(self):
        key = some_bytes(32)
        for number in (0, 1, 258, MOST_NUMBER):
            nonce = [0] * 4 + list(number.to_bytes(8, "little"))
            for length in LENGTHS:
                data, text = some_bytes(length), some_bytes(length, 2)
                self.assertEqual(self.suite.seal(key, number, data, text),
                                 known_sealed(key, nonce, data, text))


class Small(HushCase):
    suite = SmallSuite()

    def test_examples(self):
        self.assertEqual(self.suite.public([0] * 16), [147, 54, 1] + [0] * 13)
        self.assertEqual(self.suite.digest([97, 98, 99]),
                         [195, 68, 157, 41, 37, 0, 64, 11, 18, 241, 204, 132, 220, 100, 51, 15])
        self.assertEqual(self.suite.seal(list(range(1, 17)), 0, [], [104, 105]),
                         [44, 49, 208, 37, 33, 101, 43, 164, 164, 18])

    def test_public_and_exchange(self):
        for secret in ([0] * 16, [255] * 16, some_bytes(16), some_bytes(16, 2)):
            self.assertEqual(self.suite.public(secret), public_of(secret))
            for other in ([0] * 16, some_bytes(16, 3)):
                public = public_of(other)
                self.assertEqual(self.suite.exchange(secret, public), shared_of(secret, public))

    def assert_weak(self, number):
        self.assertIs(self.suite.is_weak(small_key(number)), True)
        with self.assertRaises(Malformed):
            self.suite.exchange([1] * 16, small_key(number))

    def test_numbers_around_the_modulus(self):
        for number in (0, 1, L, L + 1, L + 2, L + 43, 2 ** 128 - 1):
            self.assert_weak(number)
        # L is 3 modulo 4, so L - 1 is no square.
        self.assertIs(self.suite.is_weak(small_key(L - 1)), False)
        self.assertEqual(self.suite.exchange([1] * 16, small_key(L - 1)), small_key(L - 1))

    def test_squares_are_weak(self):
        for number in range(2, 60):
            self.assert_weak(number * number)
            self.assert_weak(pow(43, 2 * number, L))
            public = small_key(pow(43, 2 * number + 1, L))
            self.assertIs(self.suite.is_weak(public), False)
            self.assertEqual(self.suite.exchange([1] * 16, public), shared_of([1] * 16, public))

    def test_a_number_and_the_same_behind_the_modulus(self):
        public = small_key(43)
        self.assertIs(self.suite.is_weak(public), False)
        self.assert_weak(43 + L)

    def test_digests(self):
        for length in LENGTHS:
            data = some_bytes(length)
            self.assertEqual(self.suite.digest(data), digest_of(data))
            for size in (0, 1, 16, 255, 256, 1024):
                key = some_bytes(size, 2)
                self.assertEqual(self.suite.keyed(key, data), keyed_of(key, data))

    def test_sealing(self):
        key = some_bytes(16)
        for number in (0, 1, 258, MOST_NUMBER):
            for one in LENGTHS + (300,):
                for other in LENGTHS:
                    data, text = some_bytes(one), some_bytes(other, 2)
                    self.assertEqual(self.suite.seal(key, number, data, text),
                                     sealed_of(key, number, data, text))


class Independence(HushCase):
    def test_a_suite_keeps_nothing(self):
        for suite in SUITES:
            fields = dict(vars(suite))
            key = some_bytes(suite.key_size)
            sealed = suite.seal(key, 0, [1], [2])
            spoil(key)
            self.assertEqual(suite.open_sealed(some_bytes(suite.key_size), 0, [1], sealed), [2])
            self.assertEqual(vars(suite), fields)


if __name__ == "__main__":
    unittest.main()
