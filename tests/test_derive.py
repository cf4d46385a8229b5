import hashlib
import hmac
import unittest

from hushlink.derive import derive, expand, extract
from hushlink.octets import to_digits
from support import HushCase, some_bytes

MOST = 1048576
MOST_SECRET = 1048512


def plain_keyed(key, data):
    return list(hmac.new(bytes(key), bytes(data), hashlib.sha256).digest())


def plain_expand(key, information, size):
    result, part = [], []
    for k in range(1, size // 32 + 2):
        part = plain_keyed(key, part + information + [k % 256])
        result = result + part
    return result[:size]


class Extracting(HushCase):
    def test_salts_and_secrets(self):
        for salt in ([], [1], some_bytes(64), some_bytes(65)):
            for secret in ([], [1], some_bytes(100)):
                self.assertEqual(extract(salt, secret), plain_keyed(salt, secret))

    def test_empty_salt(self):
        self.assertEqual(extract([], [5]), extract([0] * 32, [5]))

    def test_longest_arguments(self):
        self.assertEqual(extract([1] * MOST, [2]), plain_keyed([1] * MOST, [2]))
        self.assertEqual(extract([1], [2] * MOST_SECRET), plain_keyed([1], [2] * MOST_SECRET))

    def test_lengths(self):
        self.assert_out_of_range(extract, [1] * (MOST + 1), [2])
        self.assert_out_of_range(extract, [1], [2] * (MOST_SECRET + 1))
        self.assert_out_of_range(extract, [1] * (MOST + 1), None)

    def test_extract_keeps_its_arguments(self):
        self.assert_keeps(extract, [1, 2], [3])
        self.assert_fresh(extract, [1, 2], [3])


class Expanding(HushCase):
    def test_sizes(self):
        key = some_bytes(32)
        for size in (0, 1, 31, 32, 33, 63, 64, 65, 1000, 8159, 8160):
            for information in ([], [9], some_bytes(70)):
                found = expand(key, information, size)
                self.assertEqual(found, plain_expand(key, information, size))
                self.assertEqual(len(found), size)

    def test_a_longer_result_begins_with_each_shorter_one(self):
        key = some_bytes(40)
        longest = expand(key, [1], 8160)
        for size in list(range(100)) + [8000]:
            self.assertEqual(expand(key, [1], size), longest[:size])

    def test_keys(self):
        for size in (32, 33, 64, 65, 200):
            key = some_bytes(size)
            self.assertEqual(expand(key, [7], 70), plain_expand(key, [7], 70))

    def test_most_information(self):
        information = some_bytes(1024)
        self.assertEqual(expand([1] * 32, information, 65),
                         plain_expand([1] * 32, information, 65))

    def test_longest_key(self):
        key = [1] * MOST
        self.assertEqual(expand(key, [], 65), plain_expand(key, [], 65))

    def test_lengths(self):
        for length in (0, 31, MOST + 1):
            self.assert_out_of_range(expand, [1] * length, [], 32)
            self.assert_out_of_range(expand, [1] * length, None, None)
        self.assert_out_of_range(expand, [1] * 32, [2] * 1025, 32)
        self.assert_out_of_range(expand, [1] * 32, [2] * 1025, None)
        for size in (-1, -32, 8161, 2 ** 40):
            self.assert_out_of_range(expand, [1] * 32, [], size)

    def test_expand_keeps_its_arguments(self):
        for size in (32, 64, 70):
            self.assert_keeps(expand, some_bytes(size), [1, 2], 40)
            self.assert_fresh(expand, some_bytes(size), [1, 2], 40)


class Deriving(HushCase):
    def test_example(self):
        self.assertEqual(to_digits(derive([2, 3], [1], [4, 5], 20)),
                         "eb08eb3bf1ef96cd91b435f7fa5fa46f90b6b758")

    def test_known_value(self):
        salt = list(range(13))
        information = list(range(0xf0, 0xfa))
        self.assertEqual(to_digits(extract(salt, [0x0b] * 22)),
                         "077709362c2e32df0ddc3f0dc47bba6390b6c73bb50f9c3122ec844ad7c2b3e5")
        self.assertEqual(to_digits(derive(salt, [0x0b] * 22, information, 42)),
                         "3cb25f25faacd57a90434f64d0362f2a2d2d0a90cf1a5a4c5db02d56ecc4c5bf"
                         "34007208d5b887185865")

    def test_is_expand_of_extract(self):
        for salt in ([], [1], some_bytes(70)):
            for size in (0, 1, 32, 33, 8160):
                expected = plain_expand(plain_keyed(salt, [6, 7]), [8], size)
                self.assertEqual(derive(salt, [6, 7], [8], size), expected)

    def test_empty_arguments(self):
        self.assertEqual(derive([], [], [], 40), plain_expand(plain_keyed([], []), [], 40))
        self.assertEqual(derive([], [], [], 0), [])

    def test_longest_arguments(self):
        found = derive([3] * MOST, [4] * MOST_SECRET, [5] * 1024, 33)
        secret = plain_keyed([3] * MOST, [4] * MOST_SECRET)
        self.assertEqual(found, plain_expand(secret, [5] * 1024, 33))

    def test_lengths_are_checked_in_order(self):
        self.assert_out_of_range(derive, [1] * (MOST + 1), None, None, None)
        self.assert_out_of_range(derive, [], [1] * (MOST_SECRET + 1), None, None)
        self.assert_out_of_range(derive, [], [], [1] * 1025, None)
        self.assert_out_of_range(derive, [], [], [], -1)
        self.assert_out_of_range(derive, [], [], [], 8161)

    def test_lengths_are_checked_before_everything_else(self):
        self.assert_out_of_range(derive, [None], [None], [1] * 1025, 32)
        self.assert_out_of_range(derive, [None], [None], [None], 8161)

    def test_derive_keeps_its_arguments(self):
        self.assert_keeps(derive, some_bytes(64), [1], [2], 40)
        self.assert_fresh(derive, some_bytes(64), [1], [2], 40)


if __name__ == "__main__":
    unittest.main()
