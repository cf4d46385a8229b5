import unittest

from hushlink.words import (add_words, bytes_big, bytes_little, rotate_left, rotate_right,
                            subtract_words, words_big, words_little)
from support import HushCase, some_bytes, some_number

WORDS = [0, 1, 2, 255, 65536, 0x80000000, 0x80000001, 0x12345678, 0xdeadbeef, 4294967294,
         4294967295]


def turned(word, count):
    """The word with its bits, as a text, moved to the left by count."""
    bits = format(word, "032b")
    return int(bits[count:] + bits[:count], 2)


class Words(HushCase):
    def test_sums(self):
        for first in WORDS:
            for second in WORDS:
                self.assertEqual(add_words(first, second), (first + second) % 2 ** 32)
        self.assertEqual(add_words(4294967295, 1), 0)
        self.assertEqual(add_words(4294967295, 4294967295), 4294967294)

    def test_differences(self):
        for first in WORDS:
            for second in WORDS:
                self.assertEqual(subtract_words(first, second), (first - second) % 2 ** 32)

    def test_rotations(self):
        for word in WORDS:
            for count in range(32):
                self.assertEqual(rotate_left(word, count), turned(word, count))
                self.assertEqual(rotate_right(word, count), turned(word, (32 - count) % 32))

    def test_rotations_at_the_edges(self):
        self.assertEqual(rotate_left(0x80000001, 0), 0x80000001)
        self.assertEqual(rotate_right(0x80000001, 0), 0x80000001)
        self.assertEqual(rotate_left(0x80000001, 1), 3)
        self.assertEqual(rotate_right(0x80000001, 1), 0xc0000000)
        self.assertEqual(rotate_left(2, 31), 1)
        self.assertEqual(rotate_right(1, 31), 2)

    def test_right_undoes_left(self):
        for count in range(32):
            word = some_number(32, count)
            self.assertEqual(rotate_right(rotate_left(word, count), count), word)
            self.assertEqual(rotate_left(rotate_right(word, count), count), word)


class WordLists(HushCase):
    def test_orders(self):
        data = [1, 2, 3, 4, 255, 0, 0, 128]
        self.assertEqual(words_little(data), [0x04030201, 0x800000ff])
        self.assertEqual(words_big(data), [0x01020304, 0xff000080])
        self.assertEqual(bytes_little([0x04030201, 0x800000ff]), data)
        self.assertEqual(bytes_big([0x01020304, 0xff000080]), data)

    def test_writing_undoes_reading(self):
        data = some_bytes(64)
        self.assertEqual(bytes_little(words_little(data)), data)
        self.assertEqual(bytes_big(words_big(data)), data)
        self.assertEqual(bytes_little(WORDS), [b for w in WORDS for b in w.to_bytes(4, "little")])
        self.assertEqual(bytes_big(WORDS), [b for w in WORDS for b in w.to_bytes(4, "big")])

    def test_empty_lists(self):
        for function in (words_little, words_big, bytes_little, bytes_big):
            self.assertEqual(function([]), [])

    def test_other_lengths(self):
        for length in (1, 2, 3, 5, 6, 7, 9, 63):
            self.assert_out_of_range(words_little, [0] * length)
            self.assert_out_of_range(words_big, [0] * length)

    def test_words_little_keeps_its_argument(self):
        self.assert_keeps(words_little, [1, 2, 3, 4])
        self.assert_fresh(words_little, [1, 2, 3, 4])

    def test_words_big_keeps_its_argument(self):
        self.assert_keeps(words_big, [1, 2, 3, 4])
        self.assert_fresh(words_big, [1, 2, 3, 4])

    def test_bytes_little_keeps_its_argument(self):
        self.assert_keeps(bytes_little, [1, 2 ** 31])
        self.assert_fresh(bytes_little, [1, 2 ** 31])

    def test_bytes_big_keeps_its_argument(self):
        self.assert_keeps(bytes_big, [1, 2 ** 31])
        self.assert_fresh(bytes_big, [1, 2 ** 31])


if __name__ == "__main__":
    unittest.main()
