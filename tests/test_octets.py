import unittest

from hushlink.errors import Malformed
from hushlink.octets import (combine, cut, equal, from_big, from_digits, from_little, is_bytes,
                             pack, to_big, to_digits, to_little, unpack, zeros)
from support import HushCase, some_bytes, some_number


class Numbers(HushCase):
    def test_examples(self):
        self.assertEqual(to_little(258, 3), [2, 1, 0])
        self.assert_out_of_range(to_big, 256, 1)

    def test_each_order(self):
        self.assertEqual(to_big(258, 3), [0, 1, 2])
        self.assertEqual(to_little(0x01020304, 4), [4, 3, 2, 1])
        self.assertEqual(to_big(0x01020304, 4), [1, 2, 3, 4])
        self.assertEqual(from_little([4, 3, 2, 1]), 0x01020304)
        self.assertEqual(from_big([4, 3, 2, 1]), 0x04030201)

    def test_size_zero(self):
        for write in (to_little, to_big):
            self.assertEqual(write(0, 0), [])
            self.assert_out_of_range(write, 1, 0)
            self.assert_out_of_range(write, -1, 0)
        self.assertEqual(from_little([]), 0)
        self.assertEqual(from_big([]), 0)

    def test_zero(self):
        for size in (1, 2, 33):
            self.assertEqual(to_little(0, size), [0] * size)
            self.assertEqual(to_big(0, size), [0] * size)

    def test_greatest_number_and_one_more(self):
        for size in (1, 2, 3, 8, 32, 4096):
            for write in (to_little, to_big):
                self.assertEqual(write(256 ** size - 1, size), [255] * size)
                self.assert_out_of_range(write, 256 ** size, size)
                self.assert_out_of_range(write, 256 ** size + 1, size)

    def test_negative_numbers(self):
        for number in (-1, -255, -256, -2 ** 64):
            for size in (1, 2, 8, 100):
                self.assert_out_of_range(to_little, number, size)
                self.assert_out_of_range(to_big, number, size)

    def test_orders_are_reverse_and_reading_returns_the_number(self):
        for size in (1, 2, 5, 31, 64, 4096):
            number = some_number(8 * size, size)
            little = to_little(number, size)
            self.assertEqual(little, list(number.to_bytes(size, "little")))
            self.assertEqual(to_big(number, size), little[::-1])
            self.assertEqual(from_little(little), number)
            self.assertEqual(from_big(little[::-1]), number)

    def test_zeros_at_the_high_end_do_not_count(self):
        self.assertEqual(from_little([7, 1, 0, 0]), 263)
        self.assertEqual(from_big([0, 0, 1, 7]), 263)

    def test_from_little_keeps_its_argument(self):
        self.assertEqual(self.assert_keeps(from_little, [1, 2, 3]), 197121)

    def test_from_big_keeps_its_argument(self):
        self.assertEqual(self.assert_keeps(from_big, [1, 2, 3]), 66051)


class Packing(HushCase):
    def test_example(self):
        self.assertEqual(pack([[97], []]), [0, 0, 1, 97, 0, 0, 0])

    def test_no_parts(self):
        self.assertEqual(pack([]), [])
        self.assertEqual(unpack([]), [])

    def test_empty_parts(self):
        self.assertEqual(pack([[], []]), [0] * 6)
        self.assertEqual(unpack([0] * 6), [[], []])

    def test_unpacking_returns_the_parts(self):
        for parts in ([[1]], [[], [1, 2], [], [0] * 300, [255]], [some_bytes(256)]):
            self.assertEqual(unpack(pack(parts)), parts)

    def test_most_parts(self):
        parts = [[k % 256] for k in range(1024)]
        packed = pack(parts)
        self.assertEqual(len(packed), 4096)
        self.assertEqual(unpack(packed), parts)
        self.assert_out_of_range(pack, parts + [[]])
        with self.assertRaises(Malformed):
            unpack(packed + [0, 0, 0])
        with self.assertRaises(Malformed):
            unpack(packed + [0])

    def test_all_three_bytes_of_the_length(self):
        part = [9] * (65536 + 2 * 256 + 3)
        packed = pack([part, [1]])
        self.assertEqual(packed[:4], [1, 2, 3, 9])
        self.assertEqual(packed[3 + len(part):], [0, 0, 1, 1])
        self.assertEqual(unpack(packed), [part, [1]])

    def test_bytes_that_end_too_early(self):
        wrong = [[0], [0, 0], [0, 0, 1], [0, 0, 2, 5], [0, 1, 0] + [5] * 255, [1, 0, 0, 5],
                 [0, 0, 1, 5, 0], [0, 0, 1, 5, 0, 0], [0, 0, 0, 0, 0, 1]]
        for data in wrong:
            with self.subTest(data[:6]), self.assertRaises(Malformed):
                unpack(data)

    def test_pack_keeps_and_returns_new_lists(self):
        self.assert_keeps(pack, [[1, 2], [], [3]])
        self.assert_fresh(pack, [[1, 2], [], [3]])
        self.assert_fresh(pack, [[1, 2]])

    def test_unpack_keeps_and_returns_new_lists(self):
        self.assert_keeps(unpack, [0, 0, 2, 1, 2, 0, 0, 0])
        self.assert_fresh(unpack, [0, 0, 2, 1, 2, 0, 0, 0, 0, 0, 1, 7])


class Digits(HushCase):
    def test_writing(self):
        self.assertEqual(to_digits([0, 1, 15, 16, 171, 255]), "00010f10abff")
        data = list(range(256))
        self.assertEqual(to_digits(data), bytes(data).hex())

    def test_reading(self):
        self.assertEqual(from_digits("00010f10abff"), [0, 1, 15, 16, 171, 255])
        self.assertEqual(from_digits(bytes(range(256)).hex()), list(range(256)))

    def test_capital_letters(self):
        self.assertEqual(from_digits("ABCDEF"), [171, 205, 239])
        self.assertEqual(from_digits("aBFf0A"), [171, 255, 10])

    def test_empty(self):
        self.assertEqual(to_digits([]), "")
        self.assertEqual(from_digits(""), [])

    def test_odd_length(self):
        for text in ("0aF", "0", "g", "00000"):
            with self.subTest(text), self.assertRaises(Malformed):
                from_digits(text)

    def test_characters_that_are_no_digits(self):
        others = "gGxX_+- .,:/@`\n\t\0\u00b2\u0660\uff11\uff21\u00e0"
        for other in others:
            for text in (other + "1", "1" + other, other + other, "00" + other + "000"):
                with self.subTest(text), self.assertRaises(Malformed):
                    from_digits(text)
        for text in ("0x10", "1_00", " 1", "1 ", "+1", "-1", "ab cd "):
            with self.subTest(text), self.assertRaises(Malformed):
                from_digits(text)

    def test_to_digits_keeps_its_argument(self):
        self.assert_keeps(to_digits, [1, 2, 255])

    def test_from_digits_returns_a_new_list(self):
        self.assert_fresh(from_digits, "0102")


class Pieces(HushCase):
    def test_sizes(self):
        data = [1, 2, 3, 4, 5, 6, 7]
        self.assertEqual(cut(data, 1), [[1], [2], [3], [4], [5], [6], [7]])
        self.assertEqual(cut(data, 3), [[1, 2, 3], [4, 5, 6], [7]])
        self.assertEqual(cut(data, 6), [[1, 2, 3, 4, 5, 6], [7]])
        self.assertEqual(cut(data, 7), [data])
        self.assertEqual(cut(data, 8), [data])
        self.assertEqual(cut(data, 1000), [data])
        self.assertEqual(cut(data[:6], 3), [[1, 2, 3], [4, 5, 6]])

    def test_sizes_that_are_too_small(self):
        for size in (0, -1, -7):
            self.assert_out_of_range(cut, [1, 2, 3], size)
            self.assert_out_of_range(cut, [], size)

    def test_empty_list(self):
        for size in (1, 16):
            self.assertEqual(cut([], size), [])

    def test_cut_keeps_and_returns_new_lists(self):
        for size in (1, 2, 3, 4):
            self.assert_keeps(cut, [1, 2, 3], size)
            self.assert_fresh(cut, [1, 2, 3], size)


class Combining(HushCase):
    def test_each_byte(self):
        self.assertEqual(combine([0, 255, 12, 170], [5, 15, 10, 85]), [5, 240, 6, 255])
        data = some_bytes(300)
        other = some_bytes(300, 2)
        self.assertEqual(combine(combine(data, other), other), data)

    def test_empty_lists(self):
        self.assertEqual(combine([], []), [])

    def test_different_lengths(self):
        for first, second in (([1], []), ([], [1]), ([1, 2], [1]), ([1], [1, 2])):
            self.assert_out_of_range(combine, first, second)

    def test_combine_keeps_and_returns_a_new_list(self):
        self.assert_keeps(combine, [1, 2], [3, 4])
        self.assert_fresh(combine, [1, 2], [0, 0])


class Others(HushCase):
    def test_equal(self):
        self.assertIs(equal([], []), True)
        self.assertIs(equal([1, 2], [1, 2]), True)
        self.assertIs(equal([1, 2], [2, 1]), False)
        self.assertIs(equal([1, 2, 3], [1, 2, 4]), False)
        self.assertIs(equal([0, 2, 3], [1, 2, 3]), False)

    def test_equal_for_different_lengths(self):
        for first, second in (([1], []), ([], [0]), ([1, 2], [1]), ([1], [1, 0])):
            self.assertIs(equal(first, second), False)

    def test_equal_keeps_its_arguments(self):
        self.assert_keeps(equal, [1, 2], [1, 3])

    def test_zeros(self):
        self.assertEqual(zeros(0), [])
        self.assertEqual(zeros(1), [0])
        self.assertEqual(zeros(70), [0] * 70)
        self.assert_fresh(zeros, 3)

    def test_byte_lists(self):
        for value in ([], [0], [255], [0, 1, 254, 255], [5] * 1000):
            self.assertIs(is_bytes(value), True)

    def test_other_values(self):
        for value in ([True], [False], [1, True], [-1], [256], [1, 2, -1], [256, 1], [None],
                      ["1"], [1.0], [[1]], [[]], [(1,)], [b"a"], "", "ab", (), (1, 2), None,
                      0, 7, True, 1.5, b"ab", bytearray(b"a"), {}, {1: 2}, set(), [1, [2]],
                      range(3), object(), is_bytes):
            with self.subTest(value):
                self.assertIs(is_bytes(value), False)

    def test_is_bytes_keeps_its_argument(self):
        self.assert_keeps(is_bytes, [1, 2, [3]])


if __name__ == "__main__":
    unittest.main()
