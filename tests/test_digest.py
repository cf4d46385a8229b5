import hashlib
import unittest

from hushlink.digest import Digester, digest, digest_parts, padding
from hushlink.octets import to_digits
from hushlink.rounds import compress, start_words
from support import HushCase, some_bytes, spoil

MOST = 1048576
SIZES = [0, 1, 3, 55, 56, 57, 63, 64, 65, 119, 120, 127, 128, 129, 200]


def plain_digest(data):
    return list(hashlib.sha256(bytes(data)).digest())


def filled(*pieces):
    digester = Digester()
    for piece in pieces:
        digester.add(piece)
    return digester


class Padding(HushCase):
    def test_example(self):
        self.assertEqual(len(padding(56)), 72)

    def test_short_messages(self):
        self.assertEqual(padding(0), [128] + [0] * 63)
        self.assertEqual(padding(55), [128] + [0] * 6 + [1, 184])
        self.assertEqual(padding(56), [128] + [0] * 69 + [1, 192])
        self.assertEqual(padding(64), [128] + [0] * 61 + [2, 0])

    def test_each_length(self):
        for length in list(range(200)) + [MOST - 1, MOST]:
            found = padding(length)
            self.assertEqual((length + len(found)) % 64, 0)
            self.assertTrue(9 <= len(found) <= 72)
            self.assertEqual(found[0], 128)
            self.assertEqual(set(found[1:-8]) | {0}, {0})
            self.assertEqual(found[-8:], list((8 * length).to_bytes(8, "big")))

    def test_lengths_out_of_range(self):
        for length in (-1, -64, MOST + 1, 2 ** 70):
            self.assert_out_of_range(padding, length)

    def test_new_lists(self):
        self.assert_fresh(padding, 55)


class Digests(HushCase):
    def test_examples(self):
        self.assertEqual(to_digits(digest([1, 2, 3])),
                         "039058c6f2c0cb492c533b0a4d14ef77cc0f78abccced5287d84a1a2011cfb81")
        self.assertEqual(to_digits(digest([7] * 70)),
                         "fc02d9d3830169949aa99ab8a7d3d9f4aae6dc6ecc23746ff5ee620191250c59")

    def test_known_digests(self):
        self.assertEqual(to_digits(digest([])),
                         "e3b0c44298fc1c149afbf4c8996fb92427ae41e4649b934ca495991b7852b855")
        self.assertEqual(to_digits(digest([97, 98, 99])),
                         "ba7816bf8f01cfea414140de5dae2223b00361a396177a9cb410ff61f20015ad")

    def test_sizes(self):
        for size in SIZES:
            data = some_bytes(size)
            self.assertEqual(digest(data), plain_digest(data))

    def test_longest_message(self):
        data = some_bytes(1024) * 1024
        self.assertEqual(digest(data), plain_digest(data))
        self.assert_out_of_range(digest, data + [0])

    def test_parts(self):
        self.assertEqual(digest_parts([]), plain_digest([]))
        self.assertEqual(digest_parts([[]]), plain_digest([]))
        self.assertEqual(digest_parts([[], [1], [], [2, 3], []]), plain_digest([1, 2, 3]))
        data = some_bytes(300)
        self.assertEqual(digest_parts([data[:100], data[100:101], data[101:]]), plain_digest(data))

    def test_parts_that_are_too_long_together(self):
        half = [5] * (MOST // 2)
        self.assert_out_of_range(digest_parts, [half, half, [5]])
        self.assert_out_of_range(digest_parts, [[5], half, [], half])
        self.assert_out_of_range(digest_parts, [half + half + [5]])

    def test_lengths_are_checked_before_everything_else(self):
        self.assert_out_of_range(digest, [None] * (MOST + 1))
        self.assert_out_of_range(digest_parts, [[None] * 64, [None] * MOST])

    def test_digest_keeps_its_argument(self):
        self.assert_keeps(digest, some_bytes(70))
        self.assert_fresh(digest, [1, 2, 3])

    def test_digest_parts_keeps_its_argument(self):
        self.assert_keeps(digest_parts, [some_bytes(70), [], [1]])
        self.assert_fresh(digest_parts, [[1, 2], [3]])


class Digesters(HushCase):
    def test_pieces_of_several_sizes(self):
        data = some_bytes(300)
        for size in (1, 2, 7, 63, 64, 65, 128, 299, 300):
            digester = Digester()
            for start in range(0, 300, size):
                self.assertIsNone(digester.add(data[start:start + size]))
                self.assertIsNone(digester.add([]))
            self.assertEqual(digester.told(), plain_digest(data))

    def test_without_pieces(self):
        self.assertEqual(Digester().told(), plain_digest([]))
        self.assertEqual(filled([], []).told(), plain_digest([]))

    def test_asked_twice_and_between_pieces(self):
        digester = Digester()
        data = []
        for size in (3, 0, 60, 1, 64, 70):
            piece = some_bytes(size, size)
            data = data + piece
            digester.add(piece)
            for _ in range(2):
                self.assertEqual(digester.told(), plain_digest(data))
                self.assertEqual(digester.length(), len(data))

    def test_length(self):
        self.assertEqual(Digester().length(), 0)
        for sizes in ((1,), (0,), (63, 1), (64,), (64, 1), (30, 200, 5)):
            self.assertEqual(filled(*[[1] * size for size in sizes]).length(), sum(sizes))

    def test_state(self):
        data = some_bytes(150)
        self.assertEqual(Digester().state(), (tuple(start_words()), (), 0))
        for size in (1, 63, 64, 65, 127, 128, 129, 150):
            words = start_words()
            for start in range(0, size // 64 * 64, 64):
                words = compress(words, data[start:start + 64])
            expected = (tuple(words), tuple(data[size // 64 * 64:size]), size)
            self.assertEqual(filled(data[:size]).state(), expected)
            self.assertEqual(filled(data[:10], data[10:size]).state()[2], max(size, 10))
            pieces = [[byte] for byte in data[:size]]
            self.assertEqual(filled(*pieces).state(), expected)

    def test_asking_does_not_change_the_state(self):
        digester = filled(some_bytes(70))
        before = digester.state()
        digester.told()
        digester.length()
        digester.twin()
        self.assertEqual(digester.state(), before)

    def test_twins_do_not_affect_each_other(self):
        digester = filled([1, 2])
        twin = digester.twin()
        self.assertIsInstance(twin, Digester)
        self.assertEqual(twin.state(), digester.state())
        twin.add([3] * 70)
        self.assertEqual(digester.state(), filled([1, 2]).state())
        digester.add([4])
        self.assertEqual(twin.told(), plain_digest([1, 2] + [3] * 70))
        self.assertEqual(digester.told(), plain_digest([1, 2, 4]))
        self.assertEqual((twin.length(), digester.length()), (72, 3))

    def test_too_many_bytes(self):
        digester = filled([7] * 100)
        before = digester.state()
        for size in (MOST - 99, MOST, MOST + 1):
            self.assert_out_of_range(digester.add, [1] * size)
            self.assertEqual(digester.state(), before)
        digester.add([8])
        self.assertEqual(digester.told(), plain_digest([7] * 100 + [8]))

    def test_the_most_bytes(self):
        digester = filled([7] * 100, [7] * (MOST - 100))
        self.assertEqual(digester.length(), MOST)
        self.assert_out_of_range(digester.add, [7])
        digester.add([])
        self.assertEqual(digester.told(), plain_digest([7] * MOST))

    def test_a_piece_is_neither_changed_nor_kept(self):
        digester = Digester()
        piece = some_bytes(70)
        self.assert_keeps(digester.add, piece)
        digester.add(piece)
        spoil(piece)
        self.assertEqual(digester.told(), plain_digest(some_bytes(70) * 2))

    def test_what_is_told_is_new(self):
        digester = filled([1, 2, 3])
        self.assert_fresh(digester.told)
        self.assertIsInstance(digester.state()[0], tuple)
        self.assertIsInstance(digester.state()[1], tuple)


if __name__ == "__main__":
    unittest.main()
