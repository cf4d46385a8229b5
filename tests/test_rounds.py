import unittest

from hushlink.rounds import (choose, compress, majority, round_back, round_constants, round_step,
                             schedule, schedule_start, start_words, sum_one, sum_zero, turn_one,
                             turn_zero)
from support import HushCase, some_bytes, some_number

SIZE = 2 ** 32
WORDS = [0, 1, 2147483648, 4294967295, 0x12345678, 0xfedcba98, 0x0f0f3355, some_number(32)]


def bits(word):
    return [word // 2 ** k % 2 for k in range(32)]


def number(found):
    return sum(bit * 2 ** k for k, bit in enumerate(found))


def moved(word, turns, shifts):
    """Each bit is the sum, modulo 2, of the bits some places above it."""
    source = bits(word)
    result = []
    for k in range(32):
        total = sum(source[(k + n) % 32] for n in turns)
        total += sum(source[k + n] for n in shifts if k + n < 32)
        result.append(total % 2)
    return number(result)


def plain_schedule(block):
    words = [int.from_bytes(bytes(block[k:k + 4]), "big") for k in range(0, 64, 4)]
    for i in range(16, 64):
        words.append((moved(words[i - 2], (17, 19), (10,)) + words[i - 7]
                      + moved(words[i - 15], (7, 18), (3,)) + words[i - 16]) % SIZE)
    return words


def first_primes(count):
    found = []
    candidate = 2
    while len(found) < count:
        if all(candidate % prime for prime in found):
            found.append(candidate)
        candidate += 1
    return found


def whole_root(n, degree):
    low, high = 0, 2 ** (n.bit_length() // degree + 1)
    while high - low > 1:
        middle = (low + high) // 2
        if middle ** degree <= n:
            low = middle
        else:
            high = middle
    return low


class Functions(HushCase):
    def test_choose(self):
        for x in WORDS:
            for y in WORDS:
                for z in WORDS:
                    expected = [b if a else c for a, b, c in zip(bits(x), bits(y), bits(z))]
                    self.assertEqual(choose(x, y, z), number(expected))

    def test_majority(self):
        for x in WORDS:
            for y in WORDS:
                for z in WORDS:
                    expected = [(a + b + c) // 2 for a, b, c in zip(bits(x), bits(y), bits(z))]
                    self.assertEqual(majority(x, y, z), number(expected))

    def test_functions_of_one_word(self):
        for x in WORDS + [2 ** k for k in range(32)]:
            self.assertEqual(sum_zero(x), moved(x, (2, 13, 22), ()))
            self.assertEqual(sum_one(x), moved(x, (6, 11, 25), ()))
            self.assertEqual(turn_zero(x), moved(x, (7, 18), (3,)))
            self.assertEqual(turn_one(x), moved(x, (17, 19), (10,)))


class Constants(HushCase):
    def test_round_constants(self):
        expected = [whole_root(p * 2 ** 96, 3) % SIZE for p in first_primes(64)]
        self.assertEqual(round_constants(), expected)
        self.assertEqual(len(expected), 64)

    def test_start_words(self):
        expected = [whole_root(p * 2 ** 64, 2) % SIZE for p in first_primes(8)]
        self.assertEqual(start_words(), expected)

    def test_new_lists(self):
        self.assert_fresh(round_constants)
        self.assert_fresh(start_words)


class Schedules(HushCase):
    def test_recurrence(self):
        for block in ([0] * 64, [255] * 64, list(range(64)), some_bytes(64)):
            self.assertEqual(schedule(block), plain_schedule(block))

    def test_start_of_a_schedule(self):
        for block in ([0] * 64, [255] * 64, list(range(64)), some_bytes(64)):
            words = schedule(block)
            self.assertEqual(schedule_start(words[48:]), words[:16])

    def test_every_16_words_end_a_schedule(self):
        last = [some_number(32, k) for k in range(16)]
        start = schedule_start(last)
        block = [byte for word in start for byte in word.to_bytes(4, "big")]
        self.assertEqual(schedule(block)[48:], last)

    def test_other_lengths(self):
        for length in (0, 1, 16, 63, 65, 128):
            self.assert_out_of_range(schedule, [0] * length)
        for length in (0, 1, 15, 17, 64):
            self.assert_out_of_range(schedule_start, [0] * length)

    def test_schedule_keeps_its_argument(self):
        self.assert_keeps(schedule, list(range(64)))
        self.assert_fresh(schedule, list(range(64)))

    def test_schedule_start_keeps_its_argument(self):
        self.assert_keeps(schedule_start, list(range(16)))
        self.assert_fresh(schedule_start, list(range(16)))


class Rounds(HushCase):
    CASES = [[0] * 8, [4294967295] * 8, [1, 2147483648, 4294967295, 0, 5, 6, 7, 8],
             [some_number(32, k) for k in range(8)], [some_number(32, k) for k in range(8, 16)]]

    def test_round_step(self):
        for words in self.CASES:
            for added in WORDS:
                a, b, c, d, e, f, g, h = words
                first = h + moved(e, (6, 11, 25), ()) + choose(e, f, g) + added
                second = moved(a, (2, 13, 22), ()) + majority(a, b, c)
                expected = [(first + second) % SIZE, a, b, c, (d + first) % SIZE, e, f, g]
                self.assertEqual(round_step(words, added), expected)

    def test_round_back_undoes_round_step(self):
        for words in self.CASES:
            for added in WORDS:
                self.assertEqual(round_back(round_step(words, added), added), words)
                self.assertEqual(round_step(round_back(words, added), added), words)

    def test_compress(self):
        for words in self.CASES:
            for block in ([0] * 64, [255] * 64, some_bytes(64)):
                mixed = list(words)
                for constant, word in zip(round_constants(), plain_schedule(block)):
                    mixed = round_step(mixed, (constant + word) % SIZE)
                expected = [(one + other) % SIZE for one, other in zip(words, mixed)]
                self.assertEqual(compress(words, block), expected)

    def test_other_lengths(self):
        for length in (0, 1, 7, 9, 16):
            self.assert_out_of_range(round_step, [0] * length, 0)
            self.assert_out_of_range(round_back, [0] * length, 0)
            self.assert_out_of_range(compress, [0] * length, [0] * 64)
        for length in (0, 16, 63, 65):
            self.assert_out_of_range(compress, [0] * 8, [0] * length)

    def test_compress_checks_the_words_first(self):
        for length in (0, 7, 9):
            self.assert_out_of_range(compress, [0] * length, None)

    def test_compress_checks_before_everything_else(self):
        self.assert_out_of_range(compress, [None] * 8, [0] * 63)
        self.assert_out_of_range(compress, [None] * 8, [0] * 65)
        self.assert_out_of_range(compress, [None] * 8, [None] * 68)

    def test_round_step_keeps_its_argument(self):
        self.assert_keeps(round_step, list(range(8)), 5)
        self.assert_fresh(round_step, list(range(8)), 5)

    def test_round_back_keeps_its_argument(self):
        self.assert_keeps(round_back, list(range(8)), 5)
        self.assert_fresh(round_back, list(range(8)), 5)

    def test_compress_keeps_its_arguments(self):
        self.assert_keeps(compress, list(range(8)), list(range(64)))
        self.assert_fresh(compress, list(range(8)), list(range(64)))


if __name__ == "__main__":
    unittest.main()
