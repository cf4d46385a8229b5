import hashlib
import hmac
import unittest

from hushlink.keyed import Keyer, is_keyed, key_block, keyed, keyed_parts
from hushlink.octets import to_digits
from support import HushCase, some_bytes, spoil

MOST_KEY = 1048576
MOST = 1048512


def plain_keyed(key, data):
    return list(hmac.new(bytes(key), bytes(data), hashlib.sha256).digest())


class KeyBlocks(HushCase):
    def test_short_keys(self):
        for size in (0, 1, 32, 63, 64):
            key = some_bytes(size)
            self.assertEqual(key_block(key), key + [0] * (64 - size))

    def test_long_keys(self):
        for size in (65, 100, 1000):
            key = some_bytes(size)
            self.assertEqual(key_block(key), list(hashlib.sha256(bytes(key)).digest()) + [0] * 32)

    def test_lengths(self):
        self.assert_out_of_range(key_block, [0] * (MOST_KEY + 1))

    def test_key_block_keeps_and_returns_a_new_list(self):
        for size in (3, 64, 70):
            self.assert_keeps(key_block, some_bytes(size))
            self.assert_fresh(key_block, some_bytes(size))


class KeyedDigests(HushCase):
    def test_example(self):
        self.assertEqual(to_digits(keyed([1, 2, 3], [4, 5, 6])),
                         "52f0bd967282a27354acf04172d09644ad38d9411091496cd4b9e43c1b7eee15")

    def test_sizes_of_keys_and_messages(self):
        for key_size in (0, 1, 63, 64, 65, 100):
            for size in (0, 1, 55, 56, 63, 64, 65, 200):
                key, data = some_bytes(key_size), some_bytes(size, 2)
                self.assertEqual(keyed(key, data), plain_keyed(key, data))

    def test_zeros_behind_a_key(self):
        for key in ([], [1, 2], some_bytes(63)):
            for extra in (1, 64 - len(key)):
                self.assertEqual(keyed(key + [0] * extra, [5]), keyed(key, [5]))
            self.assertNotEqual(keyed(key + [0] * (65 - len(key)), [5]), keyed(key, [5]))

    def test_long_key_and_its_digest(self):
        key = some_bytes(65)
        self.assertEqual(keyed(key, [5]), keyed(list(hashlib.sha256(bytes(key)).digest()), [5]))

    def test_longest_key_and_message(self):
        self.assertEqual(keyed([3] * MOST_KEY, [1]), plain_keyed([3] * MOST_KEY, [1]))
        self.assertEqual(keyed([3], [1] * MOST), plain_keyed([3], [1] * MOST))

    def test_lengths(self):
        self.assert_out_of_range(keyed, [3] * (MOST_KEY + 1), [])
        self.assert_out_of_range(keyed, [3], [1] * (MOST + 1))
        self.assert_out_of_range(keyed, [3], [1] * (MOST + 64))
        self.assert_out_of_range(keyed, [3] * (MOST_KEY + 1), None)

    def test_parts(self):
        self.assertEqual(keyed_parts([1], []), plain_keyed([1], []))
        self.assertEqual(keyed_parts([1], [[]]), plain_keyed([1], []))
        self.assertEqual(keyed_parts([1], [[2], [], [3, 4], []]), plain_keyed([1], [2, 3, 4]))
        data = some_bytes(300)
        self.assertEqual(keyed_parts([1] * 70, [data[:99], data[99:]]), plain_keyed([1] * 70, data))

    def test_parts_that_are_too_long_together(self):
        half = [5] * (MOST // 2)
        self.assert_out_of_range(keyed_parts, [1], [half, half, [5]])
        self.assert_out_of_range(keyed_parts, [1], [[5], half, [], half])
        self.assert_out_of_range(keyed_parts, [1] * (MOST_KEY + 1), [[1]])
        self.assert_out_of_range(keyed_parts, [1] * (MOST_KEY + 1), None)

    def test_lengths_are_checked_before_everything_else(self):
        self.assert_out_of_range(keyed, [None] * 64, [None] * (MOST + 1))
        self.assert_out_of_range(keyed_parts, [None] * 64, [[None] * 64, [None] * MOST])
        self.assert_out_of_range(keyed_parts, [5], [[None] * 64, [None] * MOST])

    def test_is_keyed(self):
        tag = plain_keyed([1, 2], [3, 4])
        self.assertIs(is_keyed([1, 2], [3, 4], tag), True)
        for k in range(32):
            changed = tag[:k] + [tag[k] ^ 1] + tag[k + 1:]
            self.assertIs(is_keyed([1, 2], [3, 4], changed), False)
        for other in ([], tag[:31], tag[1:], tag + [0], tag + tag, [0] * 32):
            self.assertIs(is_keyed([1, 2], [3, 4], other), False)
        self.assertIs(is_keyed([1, 3], [3, 4], tag), False)
        self.assertIs(is_keyed([1, 2], [3, 5], tag), False)

    def test_is_keyed_checks_the_lengths(self):
        self.assert_out_of_range(is_keyed, [0] * (MOST_KEY + 1), None, [])
        self.assert_out_of_range(is_keyed, [], [0] * (MOST + 1), [])
        self.assertIs(is_keyed([], [], [0] * (MOST_KEY + 1)), False)

    def test_keyed_keeps_its_arguments(self):
        for size in (3, 64, 70):
            self.assert_keeps(keyed, some_bytes(size), [4])
            self.assert_fresh(keyed, some_bytes(size), [4])

    def test_keyed_parts_keeps_its_arguments(self):
        for size in (3, 64, 70):
            self.assert_keeps(keyed_parts, some_bytes(size), [[4], some_bytes(64)])
            self.assert_fresh(keyed_parts, some_bytes(size), [[4], []])

    def test_is_keyed_keeps_its_arguments(self):
        self.assert_keeps(is_keyed, [1] * 64, [2], [3] * 32)
        self.assert_keeps(is_keyed, [1], [2], plain_keyed([1], [2]))


class Keyers(HushCase):
    def test_pieces_of_several_sizes(self):
        data = some_bytes(200)
        for key in ([], [1, 2], some_bytes(64), some_bytes(65)):
            for size in (1, 7, 63, 64, 65, 200):
                keyer = Keyer(key)
                for start in range(0, 200, size):
                    self.assertIsNone(keyer.add(data[start:start + size]))
                    self.assertIsNone(keyer.add([]))
                self.assertEqual(keyer.told(), plain_keyed(key, data))

    def test_without_pieces(self):
        self.assertEqual(Keyer([5]).told(), plain_keyed([5], []))

    def test_asked_twice_and_between_pieces(self):
        keyer = Keyer([5])
        data = []
        for size in (3, 0, 61, 64, 70):
            piece = some_bytes(size, size)
            data = data + piece
            keyer.add(piece)
            for _ in range(2):
                self.assertEqual(keyer.told(), plain_keyed([5], data))

    def test_twins_do_not_affect_each_other(self):
        for key in ([5], some_bytes(70)):
            keyer = Keyer(key)
            keyer.add([1, 2])
            twin = keyer.twin()
            self.assertIsInstance(twin, Keyer)
            self.assertEqual(twin.told(), keyer.told())
            twin.add([3] * 70)
            self.assertEqual(keyer.told(), plain_keyed(key, [1, 2]))
            keyer.add([4])
            self.assertEqual(twin.told(), plain_keyed(key, [1, 2] + [3] * 70))
            self.assertEqual(keyer.told(), plain_keyed(key, [1, 2, 4]))

    def test_too_many_bytes(self):
        keyer = Keyer([5])
        keyer.add([7] * 100)
        for size in (MOST - 99, MOST, MOST + 64):
            self.assert_out_of_range(keyer.add, [1] * size)
            self.assertEqual(keyer.told(), plain_keyed([5], [7] * 100))
        keyer.add([8])
        self.assertEqual(keyer.told(), plain_keyed([5], [7] * 100 + [8]))

    def test_the_most_bytes(self):
        keyer = Keyer([5])
        keyer.add([7] * 100)
        keyer.add([7] * (MOST - 100))
        self.assert_out_of_range(keyer.add, [7])
        keyer.add([])
        self.assertEqual(keyer.told(), plain_keyed([5], [7] * MOST))

    def test_length_of_the_key(self):
        self.assert_out_of_range(Keyer, [1] * (MOST_KEY + 1))

    def test_what_is_passed_is_neither_changed_nor_kept(self):
        for size in (5, 64, 70):
            key, piece = some_bytes(size), some_bytes(70, 2)
            keyer = self.assert_keeps(Keyer, key)
            self.assert_keeps(keyer.add, piece)
            spoil(key)
            spoil(piece)
            self.assertEqual(keyer.told(), plain_keyed(some_bytes(size), some_bytes(70, 2)))

    def test_what_is_told_is_new(self):
        self.assert_fresh(Keyer([1]).told)


if __name__ == "__main__":
    unittest.main()
