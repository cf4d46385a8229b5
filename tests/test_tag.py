import unittest

from hushlink.octets import from_digits, to_digits
from hushlink.tag import (Tagger, carry_limbs, clamp, from_limbs, multiply_limbs, plain_tag, tag,
                          to_limbs)
from plain_sealing import P, known_tag, plain_r, sum_of
from support import HushCase, some_bytes, some_number, spoil

MOST = 1048576
BASE = 2 ** 26
KEY = some_bytes(32)
WRONG_KEYS = (0, 1, 15, 16, 17, 31, 33, 64)


def value(limbs):
    return sum(limb * BASE ** k for k, limb in enumerate(limbs))


def steps_of_carrying(limbs):
    """The steps of point 69, one by one."""
    found = list(limbs)
    for i in (0, 1, 2, 3):
        found[i + 1] += found[i] // BASE
        found[i] %= BASE
    found[0] += 5 * (found[4] // BASE)
    found[4] %= BASE
    found[1] += found[0] // BASE
    found[0] %= BASE
    return found


def limbs_of_product(a, b):
    """The limbs of a product before they are carried, as point 69 has them."""
    return [sum(a[j] * b[i - j] for j in range(i + 1))
            + 5 * sum(a[j] * b[i + 5 - j] for j in range(i + 1, 5)) for i in range(5)]


def number_key(r, s=0):
    return list(r.to_bytes(16, "little") + s.to_bytes(16, "little"))


class Clamps(HushCase):
    def test_zeros_and_ones(self):
        self.assertEqual(clamp([0] * 16), 0)
        kept = list(clamp([255] * 16).to_bytes(16, "little"))
        self.assertEqual(kept, [255, 255, 255, 15, 252, 255, 255, 15, 252, 255, 255, 15, 252, 255,
                                255, 15])

    def test_each_bit(self):
        for place in range(16):
            for bit in range(8):
                data = [0] * 16
                data[place] = 2 ** bit
                lost = (place % 4 == 3 and bit >= 4) or (place in (4, 8, 12) and bit < 2)
                self.assertEqual(clamp(data), 0 if lost else 2 ** (8 * place + bit))

    def test_irregular_bytes(self):
        for seed in range(8):
            data = some_bytes(16, seed)
            self.assertEqual(clamp(data), plain_r(data))

    def test_lengths(self):
        for length in (0, 1, 15, 17, 31, 32, 33):
            self.assert_out_of_range(clamp, [0] * length)

    def test_clamp_keeps_its_argument(self):
        self.assert_keeps(clamp, [255] * 16)


class Tags(HushCase):
    def check(self, key, text):
        expected = known_tag(key, text)
        self.assertEqual(tag(key, text), expected)
        self.assertEqual(plain_tag(key, text), expected)

    def test_a_published_tag(self):
        key = from_digits("85d6be7857556d337f4452fe42d506a80103808afb0db2fd4abff6af4149f51b")
        text = list(b"Cryptographic Forum Research Group")
        for function in (tag, plain_tag):
            self.assertEqual(to_digits(function(key, text)), "a8061dc1305136c6c22b8baf0c0127a9")

    def test_lengths_of_texts(self):
        for length in (0, 1, 2, 14, 15, 16, 17, 31, 32, 33, 48, 64, 200):
            for key in (KEY, [0] * 32, [255] * 32, [1] * 32):
                self.check(key, some_bytes(length, 3))
                self.check(key, [0] * length)
                self.check(key, [255] * length)

    def test_the_empty_text_has_the_tag_s(self):
        self.assertEqual(tag(KEY, []), KEY[16:])
        self.assertEqual(plain_tag(KEY, []), KEY[16:])

    def test_a_zero_behind_a_text_matters(self):
        for length in (0, 1, 15, 16):
            text = some_bytes(length)
            self.assertNotEqual(tag(KEY, text), tag(KEY, text + [0]))

    def test_sums_around_the_prime(self):
        # With r = 1 the sum is the sum of the numbers. Three of them have
        # 3 * 2 ** 128 from their last bytes; the first piece adds the rest.
        for near in (-2, -1, 0, 1, 2, 4):
            text = list((2 ** 128 - 5 + near).to_bytes(16, "little")) + [0] * 32
            self.assertEqual(sum_of(1, text), near % P)
            for s in (0, 1, 2 ** 128 - 1):
                self.check(number_key(1, s), text)
        text = list((2 ** 128 - 5).to_bytes(16, "little")) + [0] * 32
        self.assertEqual(tag(number_key(1), text), [0] * 16)

    def test_sums_that_pass_the_prime_again_and_again(self):
        for r in (1, 2, 4, 5, 2 ** 124 - 4):
            for many in (1, 2, 3, 4, 5, 8, 16):
                self.check(number_key(plain_r(number_key(r)[:16])), [255] * (16 * many))
                self.check(number_key(plain_r(number_key(r)[:16]), 2 ** 128 - 1), [255] * 16 * many)

    def test_sum_and_s_pass_the_modulus(self):
        # r = 2 and one piece of 255: the sum is 2 ** 130 - 2, which is 3.
        self.assertEqual(tag(number_key(2), [255] * 16), [3] + [0] * 15)
        # r = 2 and the number 2: the sum is 2 ** 129 + 4, and s adds 2 ** 128 - 1.
        self.assertEqual(tag(number_key(2, 2 ** 128 - 1), [2] + [0] * 15), [3] + [0] * 15)

    def test_the_longest_text(self):
        text = [7] * MOST
        expected = known_tag(KEY, text)
        self.assertEqual(tag(KEY, text), expected)
        self.assertEqual(plain_tag(KEY, text), expected)

    def test_lengths(self):
        for function in (tag, plain_tag):
            for length in WRONG_KEYS:
                self.assert_out_of_range(function, [0] * length, [])
                self.assert_out_of_range(function, [0] * length, None)
            self.assert_out_of_range(function, KEY, [0] * (MOST + 1))
            self.assert_out_of_range(function, [None] * 32, [None] * (MOST + 1))

    def test_tag_keeps_its_arguments(self):
        self.assert_keeps(tag, list(KEY), [1] * 40)
        self.assert_fresh(tag, list(KEY), [1] * 40)
        self.assert_fresh(tag, list(KEY), [])

    def test_plain_tag_keeps_its_arguments(self):
        self.assert_keeps(plain_tag, list(KEY), [1] * 40)
        self.assert_fresh(plain_tag, list(KEY), [1] * 40)
        self.assert_fresh(plain_tag, list(KEY), [])


class Limbs(HushCase):
    NUMBERS = [0, 1, 5, BASE - 1, BASE, 2 ** 52, 2 ** 104 - 1, 2 ** 104, 2 ** 128, P - 1, P, P + 1,
               2 ** 130 - 1] + [some_number(130, seed) for seed in range(8)]
    CASES = [[0] * 5, [1, 2, 3, 4, 5], [BASE - 1] * 5, [BASE] * 5, [2 ** 28 - 1] * 5,
             [2 ** 62 - 1] * 5, [0, 0, 0, 0, 2 ** 62 - 1], [2 ** 62 - 1, 0, 0, 0, 0],
             [BASE - 1, BASE - 1, BASE - 1, BASE - 1, BASE], [BASE - 5, BASE - 1, 0, 0, BASE],
             [0, 2 ** 62 - 1, 0, 2 ** 62 - 1, 0]]
    CASES += [[some_number(62, 5 * seed + k) for k in range(5)] for seed in range(8)]

    def test_to_limbs(self):
        for number in self.NUMBERS:
            limbs = to_limbs(number)
            self.assertEqual(len(limbs), 5)
            self.assertEqual(value(limbs), number)
            self.assertTrue(all(0 <= limb < BASE for limb in limbs))
        self.assertEqual(to_limbs(P), [BASE - 5] + [BASE - 1] * 4)
        self.assertEqual(to_limbs(0), [0] * 5)

    def test_to_limbs_of_numbers_out_of_range(self):
        for number in (-1, -2 ** 130, 2 ** 130, 2 ** 131):
            self.assert_out_of_range(to_limbs, number)

    def test_from_limbs(self):
        for number in self.NUMBERS:
            self.assertEqual(from_limbs(to_limbs(number)), number)
        for limbs in self.CASES:
            self.assertEqual(from_limbs(limbs), value(limbs))
        self.assertEqual(from_limbs([BASE, 0, 0, 0, 0]), from_limbs([0, 1, 0, 0, 0]))
        self.assertEqual(from_limbs([0, 0, 0, 0, BASE]), 2 ** 130)

    def test_carry_limbs(self):
        for limbs in self.CASES:
            carried = carry_limbs(limbs)
            self.assertEqual(carried, steps_of_carrying(limbs))
            self.assertEqual(value(carried) % P, value(limbs) % P)
            for place, limb in enumerate(carried):
                self.assertGreaterEqual(limb, 0)
                self.assertLess(limb, BASE + 2 ** 13 if place == 1 else BASE)

    def test_the_limb_that_stays_above_26_bits(self):
        # The carry out of the limb 0 comes last and is not carried further.
        self.assertEqual(carry_limbs([BASE - 1, BASE - 1, 0, 0, BASE]), [4, BASE, 0, 0, 0])

    def test_multiply_limbs(self):
        cases = [[2 ** 28 - 1] * 5, [0] * 5, [1, 0, 0, 0, 0], [0, 0, 0, 0, 2 ** 28 - 1], to_limbs(P),
                 to_limbs(P - 1), to_limbs(2 ** 130 - 1)]
        cases += [[some_number(28, 5 * seed + k) for k in range(5)] for seed in range(5)]
        for first in cases:
            for second in cases:
                found = multiply_limbs(first, second)
                self.assertEqual(found, steps_of_carrying(limbs_of_product(first, second)))
                self.assertEqual(value(found) % P, value(first) * value(second) % P)

    def test_products_of_single_limbs(self):
        for i in range(5):
            for j in range(5):
                first, second = [0] * 5, [0] * 5
                first[i], second[j] = 3, 7
                self.assertEqual(value(multiply_limbs(first, second)) % P,
                                 21 * BASE ** (i + j) % P)

    def test_other_lengths(self):
        five = [1] * 5
        for length in (0, 1, 4, 6, 10):
            other = [1] * length
            self.assert_out_of_range(from_limbs, other)
            self.assert_out_of_range(carry_limbs, other)
            self.assert_out_of_range(multiply_limbs, other, five)
            self.assert_out_of_range(multiply_limbs, five, other)
            self.assert_out_of_range(multiply_limbs, other, None)

    def test_to_limbs_returns_a_new_list(self):
        self.assert_fresh(to_limbs, 5)
        self.assert_fresh(to_limbs, 0)

    def test_from_limbs_keeps_its_argument(self):
        self.assert_keeps(from_limbs, [BASE] * 5)

    def test_carry_limbs_keeps_its_argument(self):
        self.assert_fresh(carry_limbs, [BASE] * 5)
        self.assert_fresh(carry_limbs, [1] * 5)

    def test_multiply_limbs_keeps_its_arguments(self):
        self.assert_fresh(multiply_limbs, [BASE] * 5, [BASE - 1] * 5)
        self.assert_fresh(multiply_limbs, [1, 0, 0, 0, 0], [1] * 5)


class Taggers(HushCase):
    def test_pieces_of_every_size(self):
        text = some_bytes(100, 4)
        for size in list(range(1, 36)) + [48, 64, 99, 100]:
            tagger = Tagger(KEY)
            for start in range(0, 100, size):
                self.assertIsNone(tagger.add(text[start:start + size]))
                self.assertIsNone(tagger.add([]))
            self.assertEqual(tagger.told(), known_tag(KEY, text))

    def test_without_pieces(self):
        self.assertEqual(Tagger(KEY).told(), known_tag(KEY, []))

    def test_asked_twice_and_between_pieces(self):
        tagger = Tagger(KEY)
        text = []
        for size in (3, 0, 13, 16, 1, 40):
            piece = some_bytes(size, size)
            text = text + piece
            tagger.add(piece)
            for _ in range(2):
                self.assertEqual(tagger.told(), known_tag(KEY, text))

    def test_twins_do_not_affect_each_other(self):
        for size in (0, 5, 16, 21):
            tagger = Tagger(KEY)
            start = some_bytes(size)
            tagger.add(start)
            twin = tagger.twin()
            self.assertIsInstance(twin, Tagger)
            self.assertEqual(twin.told(), tagger.told())
            twin.add([3] * 20)
            self.assertEqual(tagger.told(), known_tag(KEY, start))
            tagger.add([4])
            self.assertEqual(twin.told(), known_tag(KEY, start + [3] * 20))
            self.assertEqual(tagger.told(), known_tag(KEY, start + [4]))

    def test_a_text_in_pieces_may_be_longer_than_a_text(self):
        # What sealing tags may have more than twice as many bytes.
        tagger = Tagger(KEY)
        tagger.add([7] * MOST)
        tagger.add([8] * 17)
        self.assertEqual(tagger.told(), known_tag(KEY, [7] * MOST + [8] * 17))

    def test_lengths(self):
        for length in WRONG_KEYS:
            self.assert_out_of_range(Tagger, [0] * length)

    def test_after_an_error_the_tagger_is_as_it_was(self):
        tagger = Tagger(KEY)
        tagger.add([5] * 20)
        self.assert_out_of_range(tagger.add, [1] * (MOST + 1))
        self.assertEqual(tagger.told(), known_tag(KEY, [5] * 20))
        tagger.add([6])
        self.assertEqual(tagger.told(), known_tag(KEY, [5] * 20 + [6]))

    def test_what_is_passed_is_neither_changed_nor_kept(self):
        for size in (5, 16, 21):
            key, piece = list(KEY), some_bytes(size)
            tagger = self.assert_keeps(Tagger, key)
            self.assert_keeps(tagger.add, piece)
            spoil(key)
            spoil(piece)
            self.assertEqual(tagger.told(), known_tag(KEY, some_bytes(size)))

    def test_what_is_told_is_new(self):
        tagger = Tagger(KEY)
        self.assert_fresh(tagger.told)
        tagger.add([1] * 20)
        self.assert_fresh(tagger.told)


if __name__ == "__main__":
    unittest.main()
