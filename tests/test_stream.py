import unittest

from hushlink.stream import (StreamReader, apply_stream, block, double_round, double_round_back,
                             key_stream, quarter_round, quarter_round_back, start_state)
from plain_stream import plain_block, plain_double, plain_quarter, plain_start, plain_stream
from support import HushCase, some_bytes, some_number, spoil

MOST = 1048576
MOST_COUNTER = 4294967295
KEY = some_bytes(32)
NONCE = some_bytes(12, 2)
WORDS = [0, 1, 2147483648, 4294967295, 0x11111111, 0x01020304, 0x9b8d6f43, 0x01234567]


class QuarterRounds(HushCase):
    def test_examples(self):
        self.assertEqual(quarter_round(1, 0, 0, 0), (268435457, 2155907080, 16843024, 16777488))
        self.assertEqual(quarter_round(0x11111111, 0x01020304, 0x9b8d6f43, 0x01234567),
                         (0xea2a92f4, 0xcb1cf8ce, 0x4581472e, 0x5881c4bb))

    def cases(self):
        for k in range(8):
            yield tuple(WORDS[(k + n * n) % 8] for n in range(4))
            yield tuple(some_number(32, 4 * k + n) for n in range(4))
        for place in range(4):
            for bit in range(32):
                yield tuple(2 ** bit if n == place else 0 for n in range(4))
        yield (4294967295,) * 4

    def test_each_word(self):
        for case in self.cases():
            words = list(case)
            plain_quarter(words, 0, 1, 2, 3)
            self.assertEqual(quarter_round(*case), tuple(words))

    def test_inverse(self):
        for case in self.cases():
            self.assertEqual(quarter_round_back(*quarter_round(*case)), case)
            self.assertEqual(quarter_round(*quarter_round_back(*case)), case)
        self.assertIsInstance(quarter_round_back(1, 2, 3, 4), tuple)


class DoubleRounds(HushCase):
    STATES = [[0] * 16, [4294967295] * 16, list(range(16)), [some_number(32, k) for k in range(16)]]

    def test_double_round(self):
        for state in self.STATES:
            words = list(state)
            plain_double(words)
            self.assertEqual(double_round(state), words)

    def test_inverse(self):
        for state in self.STATES:
            self.assertEqual(double_round_back(double_round(state)), state)
            self.assertEqual(double_round(double_round_back(state)), state)

    def test_other_lengths(self):
        for length in (0, 1, 15, 17, 32):
            state = list(range(length))
            self.assert_out_of_range(double_round, state)
            self.assert_out_of_range(double_round_back, state)
            self.assertEqual(state, list(range(length)))

    def test_double_round_keeps_its_argument(self):
        self.assert_keeps(double_round, list(range(16)))
        self.assert_fresh(double_round, list(range(16)))

    def test_double_round_back_keeps_its_argument(self):
        self.assert_keeps(double_round_back, list(range(16)))
        self.assert_fresh(double_round_back, list(range(16)))


class Blocks(HushCase):
    def test_start_state(self):
        for counter in (0, 1, 258, 2 ** 31, MOST_COUNTER):
            found = start_state(KEY, counter, NONCE)
            self.assertEqual(found, plain_start(KEY, counter, NONCE))
            self.assertEqual(found[12], counter)
        self.assertEqual(start_state(KEY, 0, NONCE)[:4],
                         [1634760805, 857760878, 2036477234, 1797285236])

    def test_known_block(self):
        nonce = [0, 0, 0, 9, 0, 0, 0, 0x4a, 0, 0, 0, 0]
        self.assertEqual(bytes(block(list(range(32)), 1, nonce)).hex(),
                         "10f1e7e4d13b5915500fdd1fa32071c4c7d1f4c733c068030422aa9ac3d46c4e"
                         "d2826446079faa0914c2d705d98b02a2b5129cd1de164eb9cbd083e8a2503c4e")

    def test_blocks(self):
        for counter in (0, 1, 258, 2 ** 31, MOST_COUNTER):
            for key, nonce in ((KEY, NONCE), ([0] * 32, [0] * 12), ([255] * 32, [255] * 12)):
                self.assertEqual(block(key, counter, nonce), plain_block(key, counter, nonce))

    def test_lengths_and_ranges(self):
        for function in (start_state, block):
            for length in (0, 31, 33):
                self.assert_out_of_range(function, [0] * length, 0, NONCE)
                self.assert_out_of_range(function, [0] * length, None, None)
            for counter in (-1, MOST_COUNTER + 1, 2 ** 64):
                self.assert_out_of_range(function, KEY, counter, NONCE)
                self.assert_out_of_range(function, KEY, counter, None)
            for length in (0, 11, 13):
                self.assert_out_of_range(function, KEY, 0, [0] * length)

    def test_start_state_keeps_its_arguments(self):
        self.assert_keeps(start_state, list(KEY), 1, list(NONCE))
        self.assert_fresh(start_state, list(KEY), 1, list(NONCE))

    def test_block_keeps_its_arguments(self):
        self.assert_keeps(block, list(KEY), 1, list(NONCE))
        self.assert_fresh(block, list(KEY), 1, list(NONCE))


class KeyStreams(HushCase):
    def test_sizes(self):
        for size in (0, 1, 63, 64, 65, 127, 128, 129, 200):
            self.assertEqual(key_stream(KEY, NONCE, size), plain_stream(KEY, NONCE, size))
            self.assertEqual(key_stream(KEY, NONCE, size, counter=7),
                             plain_stream(KEY, NONCE, size, 7))

    def test_the_stream_begins_at_the_counter(self):
        self.assertEqual(key_stream(KEY, NONCE, 64, counter=3), block(KEY, 3, NONCE))
        self.assertEqual(key_stream(KEY, NONCE, 200)[64:], key_stream(KEY, NONCE, 136, counter=1))

    def test_apply_stream(self):
        for size in (0, 1, 63, 64, 65, 200):
            text = some_bytes(size, 9)
            for counter in (0, 5):
                applied = apply_stream(KEY, NONCE, text, counter=counter)
                stream = plain_stream(KEY, NONCE, size, counter)
                self.assertEqual(applied, [one ^ other for one, other in zip(text, stream)])
                self.assertEqual(apply_stream(KEY, NONCE, applied, counter=counter), text)
        self.assertEqual(apply_stream(KEY, NONCE, [0] * 70), key_stream(KEY, NONCE, 70))

    def test_last_block(self):
        last = plain_block(KEY, MOST_COUNTER, NONCE)
        before = plain_block(KEY, MOST_COUNTER - 1, NONCE)
        self.assertEqual(key_stream(KEY, NONCE, 64, counter=MOST_COUNTER), last)
        self.assertEqual(key_stream(KEY, NONCE, 128, counter=MOST_COUNTER - 1), before + last)
        self.assertEqual(apply_stream(KEY, NONCE, [0] * 64, counter=MOST_COUNTER), last)
        self.assertEqual(key_stream(KEY, NONCE, 0, counter=MOST_COUNTER), [])
        self.assertEqual(apply_stream(KEY, NONCE, [], counter=MOST_COUNTER), [])

    def test_behind_the_last_block(self):
        for size, counter in ((65, MOST_COUNTER), (128, MOST_COUNTER), (129, MOST_COUNTER - 1),
                              (MOST, MOST_COUNTER - 16382)):
            self.assert_out_of_range(key_stream, KEY, NONCE, size, counter=counter)
            self.assert_out_of_range(apply_stream, KEY, NONCE, [0] * size, counter=counter)

    def test_longest_stream(self):
        stream = key_stream(KEY, NONCE, MOST, counter=MOST_COUNTER - 16383)
        self.assertEqual(len(stream), MOST)
        self.assertEqual(stream[-64:], plain_block(KEY, MOST_COUNTER, NONCE))
        self.assertEqual(stream[:64], plain_block(KEY, MOST_COUNTER - 16383, NONCE))

    def test_longest_text(self):
        applied = apply_stream(KEY, NONCE, [0] * MOST)
        self.assertEqual(len(applied), MOST)
        self.assertEqual(applied[-64:], plain_block(KEY, 16383, NONCE))

    def test_lengths_and_ranges(self):
        for function, last in ((key_stream, 5), (apply_stream, [5])):
            for length in (0, 31, 33):
                self.assert_out_of_range(function, [0] * length, NONCE, last)
                self.assert_out_of_range(function, [0] * length, None, None, counter=None)
            for length in (0, 11, 13):
                self.assert_out_of_range(function, KEY, [0] * length, last)
                self.assert_out_of_range(function, KEY, [0] * length, None, counter=None)
            for counter in (-1, MOST_COUNTER + 1):
                self.assert_out_of_range(function, KEY, NONCE, last, counter=counter)
        for size in (-1, -64, MOST + 1):
            self.assert_out_of_range(key_stream, KEY, NONCE, size)
            self.assert_out_of_range(key_stream, KEY, NONCE, size, counter=None)
        self.assert_out_of_range(apply_stream, KEY, NONCE, [0] * (MOST + 1))
        self.assert_out_of_range(apply_stream, KEY, NONCE, [0] * (MOST + 1), counter=None)

    def test_a_wrong_counter_without_any_bytes(self):
        for counter in (-1, MOST_COUNTER + 1):
            self.assert_out_of_range(key_stream, KEY, NONCE, 0, counter=counter)
            self.assert_out_of_range(apply_stream, KEY, NONCE, [], counter=counter)

    def test_key_stream_keeps_its_arguments(self):
        self.assert_keeps(key_stream, list(KEY), list(NONCE), 70, counter=1)
        self.assert_fresh(key_stream, list(KEY), list(NONCE), 70)

    def test_apply_stream_keeps_its_arguments(self):
        self.assert_keeps(apply_stream, list(KEY), list(NONCE), [1] * 70, counter=1)
        self.assert_fresh(apply_stream, list(KEY), list(NONCE), [1] * 70)


class Readers(HushCase):
    def test_pieces_of_several_sizes(self):
        for sizes in ((200,), (1,) * 130, (0, 63, 1, 0, 64, 65, 7), (64, 64, 0, 64), (10, 100, 90),
                      (0, 0, 5, 0)):
            for counter in (0, 9):
                reader = StreamReader(KEY, NONCE, counter=counter)
                data = []
                for size in sizes:
                    piece = reader.take(size)
                    self.assertEqual(len(piece), size)
                    data += piece
                    self.assertEqual(reader.position(), len(data))
                self.assertEqual(data, key_stream(KEY, NONCE, sum(sizes), counter=counter))
                self.assertEqual(data, plain_stream(KEY, NONCE, sum(sizes), counter))

    def test_apply(self):
        text = some_bytes(200, 4)
        reader = StreamReader(KEY, NONCE, counter=1)
        applied = []
        for start, end in ((0, 70), (70, 70), (70, 71), (71, 200)):
            applied += reader.apply(text[start:end])
            self.assertEqual(reader.position(), end)
        self.assertEqual(applied, apply_stream(KEY, NONCE, text, counter=1))

    def test_take_and_apply_share_the_position(self):
        reader = StreamReader(KEY, NONCE)
        stream = plain_stream(KEY, NONCE, 110)
        self.assertEqual(reader.take(30), stream[:30])
        self.assertEqual(reader.apply([255] * 50), [byte ^ 255 for byte in stream[30:80]])
        self.assertEqual(reader.take(30), stream[80:])

    def test_position_of_a_new_reader(self):
        self.assertEqual(StreamReader(KEY, NONCE).position(), 0)
        self.assertEqual(StreamReader(KEY, NONCE, counter=5).position(), 0)

    def test_twin(self):
        reader = StreamReader(KEY, NONCE, counter=2)
        reader.take(70)
        twin = reader.twin()
        self.assertIsInstance(twin, StreamReader)
        self.assertEqual(twin.position(), 70)
        stream = plain_stream(KEY, NONCE, 200, 2)
        self.assertEqual(twin.take(50), stream[70:120])
        self.assertEqual(reader.position(), 70)
        self.assertEqual(reader.take(5), stream[70:75])
        self.assertEqual(twin.position(), 120)
        self.assertEqual(twin.take(80), stream[120:])
        self.assertEqual(reader.take(125), stream[75:])

    def test_last_block(self):
        last = plain_block(KEY, MOST_COUNTER, NONCE)
        reader = StreamReader(KEY, NONCE, counter=MOST_COUNTER)
        self.assertEqual(reader.take(64), last)
        self.assertEqual(reader.take(0), [])
        self.assertEqual(reader.apply([]), [])
        self.assert_out_of_range(reader.take, 1)
        self.assert_out_of_range(reader.apply, [1])
        self.assertEqual(reader.position(), 64)

    def test_after_an_error_the_reader_is_as_it_was(self):
        last = plain_stream(KEY, NONCE, 128, MOST_COUNTER - 1)
        reader = StreamReader(KEY, NONCE, counter=MOST_COUNTER - 1)
        self.assertEqual(reader.take(60), last[:60])
        for size in (69, 100, 2 ** 40):
            self.assert_out_of_range(reader.take, size)
            self.assertEqual(reader.position(), 60)
        self.assert_out_of_range(reader.apply, [0] * 69)
        self.assert_out_of_range(reader.apply, [0] * (MOST + 1))
        self.assertEqual(reader.position(), 60)
        self.assertEqual(reader.take(68), last[60:])
        self.assert_out_of_range(reader.take, 1)

    def test_far_behind_the_last_block(self):
        reader = StreamReader(KEY, NONCE)
        for size in (2 ** 38 + 1, 2 ** 80):
            self.assert_out_of_range(reader.take, size)
            self.assertEqual(reader.position(), 0)

    def test_text_that_is_too_long(self):
        reader = StreamReader(KEY, NONCE)
        self.assert_out_of_range(reader.apply, [0] * (MOST + 1))
        self.assertEqual(reader.position(), 0)
        self.assertEqual(reader.take(3), plain_stream(KEY, NONCE, 3))

    def test_sizes_that_only_key_stream_bounds(self):
        reader = StreamReader(KEY, NONCE)
        self.assertEqual(reader.take(MOST + 1)[MOST:], plain_block(KEY, 16384, NONCE)[:1])
        self.assertEqual(reader.position(), MOST + 1)

    def test_negative_sizes(self):
        reader = StreamReader(KEY, NONCE)
        reader.take(5)
        for size in (-1, -5, -64):
            self.assert_out_of_range(reader.take, size)
            self.assertEqual(reader.position(), 5)

    def test_lengths_and_ranges(self):
        for length in (0, 31, 33):
            self.assert_out_of_range(StreamReader, [0] * length, NONCE)
            self.assert_out_of_range(StreamReader, [0] * length, None, counter=None)
        for length in (0, 11, 13):
            self.assert_out_of_range(StreamReader, KEY, [0] * length)
            self.assert_out_of_range(StreamReader, KEY, [0] * length, counter=None)
        for counter in (-1, MOST_COUNTER + 1):
            self.assert_out_of_range(StreamReader, KEY, NONCE, counter=counter)

    def test_what_is_passed_is_neither_changed_nor_kept(self):
        key, nonce, text = list(KEY), list(NONCE), some_bytes(70)
        reader = self.assert_keeps(StreamReader, key, nonce, counter=1)
        spoil(key)
        spoil(nonce)
        self.assertEqual(reader.take(70), plain_stream(KEY, NONCE, 70, 1))
        self.assert_keeps(reader.apply, text)

    def test_what_is_returned_is_new(self):
        reader = StreamReader(KEY, NONCE)
        twin = reader.twin()
        spoil(reader.take(70))
        spoil(reader.apply([0] * 10))
        self.assertEqual(reader.take(10), plain_stream(KEY, NONCE, 90)[80:])
        self.assertEqual(twin.take(90), plain_stream(KEY, NONCE, 90))


if __name__ == "__main__":
    unittest.main()
