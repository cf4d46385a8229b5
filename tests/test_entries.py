import unittest
import zlib

from hushlink.entries import (byte_sum, bytes_name, is_name, name_bytes, read_records, write_record)
from hushlink.errors import Malformed
from support import HushCase, some_bytes

LETTERS = "abcdefghijklmnopqrstuvwxyz0123456789-"


def plain_record(kind, body):
    data = [kind, len(body) // 256, len(body) % 256] + body
    return data + list(zlib.adler32(bytes(data)).to_bytes(4, "big")) + [255]


class Sums(HushCase):
    def test_examples(self):
        self.assertEqual(byte_sum([]), 1)
        self.assertEqual(byte_sum([0]), 65537)
        self.assertEqual(byte_sum([5]), 6 * 65536 + 6)
        self.assertEqual(byte_sum([5, 7]), (6 + 13) * 65536 + 13)

    def test_both_parts_pass_the_modulus(self):
        for data in ([255] * 257, [255] * 258, [255] * 3000, some_bytes(40000), [0] * 65521):
            self.assertEqual(self.assert_keeps(byte_sum, data), zlib.adler32(bytes(data)))


class Records(HushCase):
    def test_examples(self):
        self.assertEqual(write_record(2, []), [2, 0, 0, 0, 9, 0, 3, 255])
        self.assertEqual(read_records([2, 0, 0, 0, 9, 0, 3, 255, 2, 0]), ([(2, [])], 8))

    def test_write(self):
        for kind in (1, 2, 3, 4, 5):
            for size in (0, 1, 255, 256, 65535):
                body = some_bytes(size)
                self.assertEqual(self.assert_keeps(write_record, kind, body),
                                 plain_record(kind, body))
        self.assert_fresh(write_record, 3, [1, 2])

    def test_wrong_kinds_and_bodies(self):
        for kind in (-1, 0, 6, 255, 256):
            self.assert_out_of_range(write_record, kind, [])
        for kind in (1, 5):
            self.assert_out_of_range(write_record, kind, [0] * 65536)

    def test_read(self):
        bodies = [(1, [1, 2]), (2, []), (5, some_bytes(300)), (3, [255] * 9), (4, [0])]
        data = [byte for kind, body in bodies for byte in plain_record(kind, body)]
        self.assertEqual(self.assert_keeps(read_records, data), (bodies, len(data)))
        self.assertEqual(read_records([]), ([], 0))
        self.assert_fresh(read_records, data)
        self.assertEqual(read_records(plain_record(1, [7] * 65535)), ([(1, [7] * 65535)], 65543))

    def test_cut_at_every_place(self):
        first, second = plain_record(3, [1, 2, 3]), plain_record(4, [4, 5])
        for place in range(len(first) + len(second) + 1):
            expected = [(3, [1, 2, 3])][:place // len(first)]
            if place == len(first) + len(second):
                expected = [(3, [1, 2, 3]), (4, [4, 5])]
            good = {0: 0, 1: len(first), 2: place}[len(expected)]
            self.assertEqual(read_records((first + second)[:place]), (expected, good))

    def test_zeros_behind_a_cut(self):
        first, second = plain_record(3, [1, 2, 3]), plain_record(4, [4, 5])
        for place in range(len(second)):
            for many in (1, len(second) - place, 40):
                data = first + second[:place] + [0] * many
                self.assertEqual(read_records(data), ([(3, [1, 2, 3])], len(first)))

    def test_a_changed_byte_at_every_place(self):
        first, second, third = plain_record(3, [1, 2]), plain_record(4, [4]), plain_record(2, [])
        for place in range(len(second)):
            for change in (1, 128, 255):
                spoilt = list(second)
                spoilt[place] ^= change
                found = read_records(first + spoilt + third)
                self.assertEqual(found, ([(3, [1, 2])], len(first)))

    def test_a_wrong_last_byte(self):
        for last in (0, 1, 254):
            data = plain_record(3, [1])[:-1] + [last]
            self.assertEqual(read_records(data + plain_record(2, [])), ([], 0))

    def test_a_wrong_kind_with_a_right_sum(self):
        first = plain_record(1, [1])
        for kind in (0, 6, 255):
            data = first + plain_record(kind, [1]) + plain_record(2, [])
            self.assertEqual(read_records(data), ([(1, [1])], len(first)))


class Names(HushCase):
    def test_is_name(self):
        for value in ("a", "z", "0", "9", "-", "ann", "a-b", LETTERS[:32], LETTERS[-32:], "-" * 32):
            self.assertIs(is_name(value), True)
            self.assertEqual(name_bytes(value), list(value.encode()))
            self.assertEqual(bytes_name(list(value.encode())), value)
        self.assert_fresh(name_bytes, "ann")
        self.assert_keeps(bytes_name, [97])

    def test_every_character(self):
        for code in range(256):
            allowed = chr(code) in LETTERS
            self.assertIs(is_name(chr(code)), allowed)
            self.assertIs(is_name("a" + chr(code) + "b"), allowed)
            if not allowed:
                with self.assertRaises(Malformed):
                    name_bytes("a" + chr(code))
                with self.assertRaises(Malformed):
                    bytes_name([97, code])
            else:
                self.assertEqual(bytes_name([code, 97]), chr(code) + "a")

    def test_wrong_names(self):
        for value in ("", "a" * 33, "Ann", "a b", "a_b", "a.b", "\xe4", "\u0131", "a\n", "\u0661",
                      "ab\x00"):
            self.assertIs(is_name(value), False)
            with self.assertRaises(Malformed):
                name_bytes(value)
        for data in ([], [97] * 33, [65], [32], [0], [255], [97, 95]):
            with self.assertRaises(Malformed):
                bytes_name(data)

    def test_values_of_other_kinds(self):
        for value in (None, 0, 5, True, ["a"], ("a",), {"a": 1}, b"a", [97], 1.5):
            self.assertIs(is_name(value), False)
            with self.assertRaises(Malformed):
                name_bytes(value)


if __name__ == "__main__":
    unittest.main()
