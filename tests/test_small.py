import unittest

from hushlink.small import small_digest, small_exponent, small_mix, small_power, small_stream
from plain_small import L, M, digest_of, exponent, mixed, stream_of
from support import HushCase, some_bytes, some_number

LENGTHS = (0, 1, 6, 7, 8, 13, 14, 15, 21, 100)


class Powers(HushCase):
    def test_small_exponents(self):
        for base in (0, 1, 2, 43, L - 1, L, L + 1, 2 * L + 5):
            result = 1
            for number in range(20):
                self.assertEqual(small_power(base, number), result)
                result = result * base % L

    def test_large_exponents(self):
        for base in (0, 1, 43, L - 1, L, L + 2, some_number(127), some_number(200, 2)):
            for power in (2 ** 126 - 1, 2 ** 127, L - 1, 2 ** 130 - 1, some_number(130)):
                self.assertEqual(small_power(base, power), pow(base, power, L))

    def test_the_modulus_and_the_base(self):
        self.assertEqual(small_power(2, 127), 1)
        self.assertEqual(small_power(43, 85070591730234615865843651857942052863), L - 1)

    def test_small_exponent(self):
        self.assertEqual(small_exponent([0] * 16), 3)
        self.assertEqual(small_exponent([1] + [0] * 15), 5)
        self.assertEqual(small_exponent([0] * 15 + [16]), 3)
        self.assertEqual(small_exponent([0] * 15 + [15]), 2 * 15 * 2 ** 120 + 3)
        self.assertEqual(small_exponent([255] * 16), 2 * (2 ** 124 - 1) + 3)
        for seed in range(5):
            self.assertEqual(small_exponent(some_bytes(16, seed)), exponent(some_bytes(16, seed)))

    def test_small_exponent_keeps_its_argument(self):
        self.assert_keeps(small_exponent, [255] * 16)


class Digests(HushCase):
    def test_small_mix(self):
        for pair in ((0, 0), (11, 17), (M - 1, M - 1), (some_number(61) % M, 5)):
            for number in (0, 1, 1048576, 2 ** 64 - 1, some_number(57)):
                found = small_mix(pair, number)
                self.assertIsInstance(found, tuple)
                self.assertEqual(found, mixed(*pair, number))
        self.assertEqual(small_mix((0, 0), 1), (1000000007, 1000000007 + 998244353))

    def test_small_digest(self):
        for length in LENGTHS:
            for seed in range(3):
                self.assertEqual(small_digest(some_bytes(length, seed)),
                                 digest_of(some_bytes(length, seed)))
            self.assertEqual(small_digest([0] * length), digest_of([0] * length))
            self.assertEqual(small_digest([255] * length), digest_of([255] * length))

    def test_example(self):
        self.assertEqual(small_digest([97, 98, 99]),
                         [195, 68, 157, 41, 37, 0, 64, 11, 18, 241, 204, 132, 220, 100, 51, 15])

    def test_zeros_and_lengths_matter(self):
        found = [small_digest([0] * length) for length in range(20)]
        self.assertEqual(len({tuple(digest) for digest in found}), 20)

    def test_small_digest_keeps_its_argument(self):
        for length in (0, 7, 8):
            self.assert_keeps(small_digest, [5] * length)
            self.assert_fresh(small_digest, [5] * length)


class Streams(HushCase):
    def test_small_stream(self):
        for key in ([0] * 16, some_bytes(16), [255] * 16):
            for number in (0, 1, 2 ** 64 - 1):
                for size in LENGTHS:
                    found = small_stream(key, number, size)
                    self.assertEqual(found, stream_of(key, number, size))
                    self.assertEqual(len(found), size)

    def test_small_stream_keeps_its_arguments(self):
        for size in (0, 7, 8):
            self.assert_keeps(small_stream, [5] * 16, 0, size)
            self.assert_fresh(small_stream, [5] * 16, 0, size)


if __name__ == "__main__":
    unittest.main()
