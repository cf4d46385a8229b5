import unittest

from hushlink.errors import NotAuthentic
from hushlink.octets import from_digits, to_digits
from hushlink.sealing import nonce_of, one_time_key, open_sealed, seal, tagged_text
from plain_sealing import known_sealed, known_tag, known_tagged
from plain_stream import plain_block
from support import HushCase, some_bytes

MOST = 1048576
KEY = some_bytes(32)
NONCE = some_bytes(12, 2)
LENGTHS = (0, 1, 15, 16, 17, 32, 33, 63, 64, 65, 130)
WRONG_KEYS = (0, 16, 31, 33)
WRONG_NONCES = (0, 8, 11, 13)


def changed_at(data, place):
    """The data with one byte changed."""
    return data[:place] + [data[place] ^ (1 << place % 8)] + data[place + 1:]


class OneTimeKeys(HushCase):
    def test_one_time_key(self):
        for key, nonce in ((KEY, NONCE), ([0] * 32, [0] * 12), ([255] * 32, [255] * 12)):
            self.assertEqual(one_time_key(key, nonce), plain_block(key, 0, nonce)[:32])

    def test_lengths(self):
        for length in WRONG_KEYS:
            self.assert_out_of_range(one_time_key, [0] * length, NONCE)
            self.assert_out_of_range(one_time_key, [0] * length, None)
        for length in WRONG_NONCES:
            self.assert_out_of_range(one_time_key, KEY, [0] * length)

    def test_one_time_key_keeps_its_arguments(self):
        self.assert_keeps(one_time_key, list(KEY), list(NONCE))
        self.assert_fresh(one_time_key, list(KEY), list(NONCE))


class TaggedTexts(HushCase):
    def test_written_out(self):
        self.assertEqual(tagged_text([], []), [0] * 16)
        self.assertEqual(tagged_text([9], [8, 7]), [9] + [0] * 15 + [8, 7] + [0] * 14
                         + [1] + [0] * 7 + [2] + [0] * 7)
        self.assertEqual(tagged_text([9] * 16, []), [9] * 16 + [16] + [0] * 15)
        self.assertEqual(tagged_text([], [9] * 258), [9] * 258 + [0] * 14 + [0] * 8
                         + [2, 1, 0, 0, 0, 0, 0, 0])

    def test_lengths_of_both(self):
        for one in LENGTHS:
            for other in LENGTHS:
                data, ciphertext = some_bytes(one), some_bytes(other, 2)
                found = tagged_text(data, ciphertext)
                self.assertEqual(found, known_tagged(data, ciphertext))
                self.assertEqual(len(found) % 16, 0)

    def test_lengths(self):
        self.assertEqual(len(tagged_text([1] * MOST, [2] * MOST)), 2 * MOST + 16)
        self.assert_out_of_range(tagged_text, [1] * (MOST + 1), [])
        self.assert_out_of_range(tagged_text, [1] * (MOST + 1), None)
        self.assert_out_of_range(tagged_text, [], [1] * (MOST + 1))

    def test_tagged_text_keeps_its_arguments(self):
        for size in (0, 5, 16):
            self.assert_keeps(tagged_text, [1] * size, [2] * size)
            self.assert_fresh(tagged_text, [1] * size, [2] * size)


class Seals(HushCase):
    def test_a_published_example(self):
        key = list(range(128, 160))
        nonce = from_digits("070000004041424344454647")
        data = from_digits("50515253c0c1c2c3c4c5c6c7")
        text = list(b"Ladies and Gentlemen of the class of '99: If I could offer you only one tip "
                    b"for the future, sunscreen would be it.")
        sealed = seal(key, nonce, data, text)
        self.assertEqual(to_digits(sealed[:16]), "d31a8d34648e60db7b86afbc53ef7ec2")
        self.assertEqual(to_digits(sealed[-16:]), "1ae10b594f09e26a7e902ecbd0600691")
        self.assertEqual(open_sealed(key, nonce, data, sealed), text)

    def test_lengths_of_data_and_texts(self):
        for one in LENGTHS:
            for other in LENGTHS:
                data, text = some_bytes(one), some_bytes(other, 2)
                sealed = seal(KEY, NONCE, data, text)
                self.assertEqual(sealed, known_sealed(KEY, NONCE, data, text))
                self.assertEqual(len(sealed), other + 16)
                self.assertEqual(open_sealed(KEY, NONCE, data, sealed), text)

    def test_other_keys_and_nonces(self):
        for key, nonce in (([0] * 32, [0] * 12), ([255] * 32, [255] * 12)):
            sealed = seal(key, nonce, [1], [2] * 20)
            self.assertEqual(sealed, known_sealed(key, nonce, [1], [2] * 20))
            self.assertEqual(open_sealed(key, nonce, [1], sealed), [2] * 20)

    def test_the_longest_data_and_text(self):
        data, text = [3] * MOST, [4] * MOST
        sealed = seal(KEY, NONCE, data, text)
        self.assertEqual(len(sealed), MOST + 16)
        one_time = plain_block(KEY, 0, NONCE)[:32]
        self.assertEqual(sealed[-16:], known_tag(one_time, known_tagged(data, sealed[:-16])))
        self.assertEqual(open_sealed(KEY, NONCE, data, sealed), text)

    def test_example_of_the_interface(self):
        with self.assertRaises(NotAuthentic):
            open_sealed([0] * 32, [0] * 12, [], [0] * 15)


class Changes(HushCase):
    def assert_closed(self, *arguments):
        with self.assertRaises(NotAuthentic):
            open_sealed(*arguments)

    def test_one_byte_changed(self):
        for one in (0, 1, 16, 17):
            for other in (0, 1, 15, 16, 17):
                data, text = some_bytes(one), some_bytes(other, 2)
                sealed = seal(KEY, NONCE, data, text)
                for place in range(len(sealed)):
                    self.assert_closed(KEY, NONCE, data, changed_at(sealed, place))
                for place in range(len(data)):
                    self.assert_closed(KEY, NONCE, changed_at(data, place), sealed)

    def test_one_byte_of_the_key_or_nonce_changed(self):
        sealed = seal(KEY, NONCE, [1], [2] * 20)
        for place in range(32):
            self.assert_closed(changed_at(KEY, place), NONCE, [1], sealed)
        for place in range(12):
            self.assert_closed(KEY, changed_at(NONCE, place), [1], sealed)

    def test_too_few_bytes(self):
        whole = seal(KEY, NONCE, [], [])
        for length in range(16):
            self.assert_closed(KEY, NONCE, [], [0] * length)
            self.assert_closed(KEY, NONCE, [], whole[:length])
        self.assertEqual(open_sealed(KEY, NONCE, [], whole), [])

    def test_bytes_that_are_moved_added_or_cut(self):
        sealed = seal(KEY, NONCE, [1, 2], [3] * 20)
        for other in (sealed[1:], sealed[:-1], sealed + [0], [0] + sealed, sealed[::-1],
                      sealed[-16:] + sealed[:-16], sealed[-16:], sealed[:-16], sealed + sealed):
            self.assert_closed(KEY, NONCE, [1, 2], other)
        for data in ([], [1], [2, 1], [1, 2, 0], [1, 2] + sealed[:20]):
            self.assert_closed(KEY, NONCE, data, sealed)
        # Zeros that only fill up are told apart by the lengths.
        sealed = seal(KEY, NONCE, [1, 0], [])
        self.assert_closed(KEY, NONCE, [1], sealed)

    def test_what_opens_is_what_sealing_returns(self):
        for seed in range(20):
            sealed = some_bytes(16 + seed, seed)
            self.assert_closed(KEY, NONCE, [], sealed)
            sealed = seal(KEY, NONCE, [seed], sealed)
            text = open_sealed(KEY, NONCE, [seed], sealed)
            self.assertEqual(seal(KEY, NONCE, [seed], text), sealed)


class Bounds(HushCase):
    def test_the_order_of_the_checks(self):
        for function in (seal, open_sealed):
            for length in WRONG_KEYS:
                self.assert_out_of_range(function, [0] * length, NONCE, [], [0] * 16)
                self.assert_out_of_range(function, [0] * length, None, None, None)
            for length in WRONG_NONCES:
                self.assert_out_of_range(function, KEY, [0] * length, [], [0] * 16)
                self.assert_out_of_range(function, KEY, [0] * length, None, None)
            self.assert_out_of_range(function, KEY, NONCE, [0] * (MOST + 1), [0] * 16)
            self.assert_out_of_range(function, KEY, NONCE, [0] * (MOST + 1), None)

    def test_lengths_of_texts(self):
        self.assert_out_of_range(seal, KEY, NONCE, [], [0] * (MOST + 1))
        self.assert_out_of_range(open_sealed, KEY, NONCE, [], [0] * (MOST + 17))
        with self.assertRaises(NotAuthentic):
            open_sealed(KEY, NONCE, [], [0] * (MOST + 16))

    def test_the_bounds_come_before_the_tag(self):
        for length in range(16):
            self.assert_out_of_range(open_sealed, [0] * 31, NONCE, [], [0] * length)
            self.assert_out_of_range(open_sealed, KEY, [0] * 13, [], [0] * length)
            self.assert_out_of_range(open_sealed, KEY, NONCE, [0] * (MOST + 1), [0] * length)
        self.assert_out_of_range(seal, [None] * 32, [None] * 12, [None], [None] * (MOST + 1))

    def test_seal_keeps_its_arguments(self):
        for size in (0, 5, 16, 70):
            self.assert_keeps(seal, list(KEY), list(NONCE), [1] * size, [2] * size)
            self.assert_fresh(seal, list(KEY), list(NONCE), [1] * size, [2] * size)

    def test_open_sealed_keeps_its_arguments(self):
        for size in (0, 5, 16, 70):
            sealed = seal(KEY, NONCE, [1] * size, [2] * size)
            self.assert_keeps(open_sealed, list(KEY), list(NONCE), [1] * size, sealed)
            self.assert_fresh(open_sealed, list(KEY), list(NONCE), [1] * size, sealed)


class Nonces(HushCase):
    def test_nonce_of(self):
        self.assertEqual(nonce_of(0), [0] * 12)
        self.assertEqual(nonce_of(1), [0] * 4 + [1] + [0] * 7)
        self.assertEqual(nonce_of(258), [0] * 4 + [2, 1] + [0] * 6)
        self.assertEqual(nonce_of(2 ** 63), [0] * 11 + [128])
        self.assertEqual(nonce_of(2 ** 64 - 1), [0] * 4 + [255] * 8)

    def test_numbers_out_of_range(self):
        for number in (-1, -2 ** 64, 2 ** 64, 2 ** 65, 2 ** 96):
            self.assert_out_of_range(nonce_of, number)

    def test_nonce_of_returns_a_new_list(self):
        self.assert_fresh(nonce_of, 0)
        self.assert_fresh(nonce_of, 5)


if __name__ == "__main__":
    unittest.main()
