import unittest

from hushlink.errors import OutOfOrder, OutOfRange
from hushlink.sending import Sender, frame_size, next_key
from hushlink.suites import SmallSuite, StandardSuite
from support import HushCase, some_bytes, spoil

STANDARD, SMALL = StandardSuite(), SmallSuite()
SUITES = (STANDARD, SMALL)
MOST = 1048576


def key_of(suite):
    return some_bytes(suite.key_size)


def later_key(suite, key):
    return suite.keyed(key, list(b"hushlink next key"))


class PlainSender:
    """What points 131 to 135 make of records, written down plainly."""

    def __init__(self, suite, padding=1, limit=MOST, piece=16384):
        self.suite, self.key, self.number = suite, key_of(suite), 0
        self.padding, self.limit, self.piece = padding, limit, piece
        self.messages = 0

    def frame(self, kind, content):
        record = [kind, len(content) // 256, len(content) % 256] + content
        while len(record) % self.padding:
            record.append(0)
        size = len(record) + self.suite.tag_size
        head = [size // 256, size % 256]
        sealed = self.suite.seal(self.key, self.number, head, record)
        self.number += 1
        return head + sealed

    def change(self):
        found = self.frame(3, [])
        self.key, self.number = later_key(self.suite, self.key), 0
        return found

    def record(self, kind, content):
        found = self.change() if self.number == self.limit - 1 else []
        return found + self.frame(kind, content)

    def message(self, data):
        self.messages += 1
        starts = list(range(0, len(data), self.piece)) or [0]
        found = []
        for start in starts[:-1]:
            found += self.record(2, data[start:start + self.piece])
        return found + self.record(1, data[starts[-1]:])

    def close(self):
        return self.record(4, list(self.messages.to_bytes(8, "big")))

    def state(self):
        return ("sender", tuple(self.key), self.number, self.messages, False)


def opened(suite, data):
    """The records of some frames: tuples of the kind, the content and the padding's length."""
    key, number, found = key_of(suite), 0, []
    while data:
        size = 256 * data[0] + data[1]
        record = suite.open_sealed(key, number, data[:2], data[2:2 + size])
        length = 256 * record[1] + record[2]
        assert not any(record[3 + length:])
        found.append((record[0], record[3:3 + length], len(record) - 3 - length))
        number += 1
        if record[0] == 3:
            key, number = later_key(suite, key), 0
        data = data[2 + size:]
    return found


class Frames(HushCase):
    def test_next_key(self):
        for suite in SUITES:
            for key in (key_of(suite), [0] * suite.key_size):
                found = next_key(suite, key)
                self.assertEqual(found, later_key(suite, key))
                self.assertEqual(len(found), suite.key_size)
                self.assert_keeps(lambda given: next_key(suite, given), key)
                self.assert_fresh(lambda given: next_key(suite, given), key)

    def test_byte_by_byte(self):
        for suite in SUITES:
            key = key_of(suite)
            size = 3 + 2 + suite.tag_size
            record = [1, 0, 2, 104, 105]
            expected = [0, size] + suite.seal(key, 0, [0, size], record)
            self.assertEqual(Sender(suite, key).message([104, 105]), expected)
            record = [1, 0, 2, 104, 105] + [0] * 11
            size = 16 + suite.tag_size
            expected = [0, size] + suite.seal(key, 0, [0, size], record)
            self.assertEqual(Sender(suite, key, padding=16).message([104, 105]), expected)
            record = [1, 0, 0] + [0] * 4093
            size = 4096 + suite.tag_size
            head = [size // 256, size % 256]
            self.assertEqual(Sender(suite, key, padding=4096).message([]),
                             head + suite.seal(key, 0, head, record))

    def test_numbers_grow(self):
        for suite in SUITES:
            sender, expected = Sender(suite, key_of(suite)), PlainSender(suite)
            for number in range(5):
                self.assertEqual(sender.state(), expected.state())
                self.assertEqual(sender.message([number] * number),
                                 expected.message([number] * number))
                self.assertEqual(sender.state(), ("sender", tuple(key_of(suite)), number + 1,
                                                  number + 1, False))

    def test_paddings_and_lengths(self):
        for suite in SUITES:
            for padding in (1, 2, 7, 16, 4095, 4096):
                sender, expected = (Sender(suite, key_of(suite), padding=padding),
                                    PlainSender(suite, padding))
                for length in (0, 1, 4, 12, 13, 14, 29, 300):
                    data = some_bytes(length)
                    self.assertEqual(sender.message(data), expected.message(data))

    def test_the_length_of_a_frame_depends_only_on_the_length_of_the_content(self):
        for padding in (1, 16):
            sender = Sender(SMALL, key_of(SMALL), padding=padding)
            for length in (0, 5, 13):
                sizes = {len(sender.message([byte] * length)) for byte in (0, 1, 255)}
                self.assertEqual(sizes, {frame_size(SMALL, length, padding=padding)})

    def test_frame_size(self):
        for suite in SUITES:
            self.assertEqual(frame_size(suite, 0), 5 + suite.tag_size)
            self.assertEqual(frame_size(suite, 16384), 16389 + suite.tag_size)
            self.assertEqual(frame_size(suite, 13, padding=16), 18 + suite.tag_size)
            self.assertEqual(frame_size(suite, 14, padding=16), 34 + suite.tag_size)
            self.assertEqual(frame_size(suite, 16384, padding=4096), 20482 + suite.tag_size)

    def test_frame_size_against_frames(self):
        for suite, lengths in ((STANDARD, (0, 1, 16384)), (SMALL, (0, 1, 12, 13, 16383, 16384))):
            for padding in (1, 3, 16, 4095, 4096):
                for length in lengths:
                    sender = Sender(suite, key_of(suite), padding=padding)
                    self.assertEqual(len(sender.message([7] * length)),
                                     frame_size(suite, length, padding=padding))


class Pieces(HushCase):
    def test_sizes_of_pieces(self):
        for suite in SUITES:
            for piece in (1, 2, 4, 5, 9, 10, 11, 16384):
                sender, expected = (Sender(suite, key_of(suite), piece=piece),
                                    PlainSender(suite, piece=piece))
                for length in (0, 1, 5, 10, 20):
                    data = some_bytes(length)
                    self.assertEqual(sender.message(data), expected.message(data))

    def test_records_of_a_message(self):
        for piece, pieces in ((1, [[5], [6], [7]]), (2, [[5, 6], [7]]), (3, [[5, 6, 7]]),
                              (4, [[5, 6, 7]])):
            found = opened(SMALL, Sender(SMALL, key_of(SMALL), piece=piece).message([5, 6, 7]))
            self.assertEqual(found, [(2, part, 0) for part in pieces[:-1]] + [(1, pieces[-1], 0)])

    def test_the_empty_message(self):
        for piece in (1, 16384):
            sender = Sender(SMALL, key_of(SMALL), piece=piece)
            self.assertEqual(opened(SMALL, sender.message([])), [(1, [], 0)])
            self.assertEqual(sender.sent(), 1)

    def test_long_messages(self):
        for length in (16383, 16384, 16385, 32768, 40000):
            sender, expected = Sender(SMALL, key_of(SMALL)), PlainSender(SMALL)
            data = some_bytes(length)
            self.assertEqual(sender.message(data), expected.message(data))

    def test_the_longest_message(self):
        data = some_bytes(1024) * 1024
        sender = Sender(SMALL, key_of(SMALL))
        found = opened(SMALL, sender.message(data))
        self.assertEqual([kind for kind, _, _ in found], [2] * 63 + [1])
        self.assertEqual(sum([content for _, content, _ in found], []), data)
        self.assertEqual(sender.sent(), 1)

    def test_a_message_that_is_too_long(self):
        for suite in SUITES:
            sender = Sender(suite, key_of(suite), limit=2)
            sender.message([1])
            state = sender.state()
            for length in (MOST + 1, MOST + 16384):
                self.assert_out_of_range(sender.message, [0] * length)
                self.assertEqual(sender.state(), state)


class Changes(HushCase):
    def test_small_limits(self):
        for suite in SUITES:
            for limit in (2, 3, 4):
                for piece in (1, 2, 5, 16384):
                    sender, expected = (Sender(suite, key_of(suite), limit=limit, piece=piece),
                                        PlainSender(suite, limit=limit, piece=piece))
                    for length in (3, 0, 1, 7):
                        self.assertEqual(sender.message([9] * length),
                                         expected.message([9] * length))
                        self.assertEqual(sender.state(), expected.state())
                        self.assertLess(sender.state()[2], limit)
                    self.assertEqual(sender.close(), expected.close())

    def test_a_change_in_the_middle_of_a_message(self):
        sender = Sender(SMALL, key_of(SMALL), limit=3, piece=1)
        kinds = [kind for kind, _, _ in opened(SMALL, sender.message([5, 6, 7, 8, 9]))]
        self.assertEqual(kinds, [2, 2, 3, 2, 2, 3, 1])
        sender = Sender(SMALL, key_of(SMALL), limit=2, piece=1)
        kinds = [kind for kind, _, _ in opened(SMALL, sender.message([5, 6, 7]))]
        self.assertEqual(kinds, [2, 3, 2, 3, 1])

    def test_a_change_comes_only_before_another_record(self):
        sender = Sender(SMALL, key_of(SMALL), limit=2)
        self.assertEqual(len(opened(SMALL, sender.message([1]))), 1)
        self.assertEqual(sender.state(), ("sender", tuple(key_of(SMALL)), 1, 1, False))

    def test_a_change_that_is_asked_for(self):
        for suite in SUITES:
            sender, expected = Sender(suite, key_of(suite)), PlainSender(suite)
            for data in ([], [1], [2, 3]):
                self.assertEqual(sender.change_key(), expected.change())
                self.assertEqual(sender.state(), expected.state())
                self.assertEqual(sender.state()[2], 0)
                self.assertEqual(sender.message(data), expected.message(data))
            self.assertEqual(sender.sent(), 3)

    def test_a_change_that_is_asked_for_at_the_limit(self):
        for limit in (2, 3):
            sender, expected = (Sender(SMALL, key_of(SMALL), limit=limit),
                                PlainSender(SMALL, limit=limit))
            for _ in range(limit - 1):
                self.assertEqual(sender.message([1]), expected.message([1]))
            found = sender.change_key()
            self.assertEqual(found, expected.change())
            self.assertEqual(len(found), frame_size(SMALL, 0))
            self.assertEqual(sender.state(), expected.state())
            self.assertEqual(sender.message([2]), expected.message([2]))
            self.assertEqual(sender.state(), expected.state())

    def test_several_changes_in_a_row(self):
        sender, expected = Sender(SMALL, key_of(SMALL), limit=2), PlainSender(SMALL, limit=2)
        for _ in range(3):
            self.assertEqual(sender.change_key(), expected.change())
        self.assertEqual(sender.message([1]), expected.message([1]))

    def test_padding_of_a_change(self):
        sender, expected = (Sender(SMALL, key_of(SMALL), padding=16, limit=2),
                            PlainSender(SMALL, padding=16, limit=2))
        self.assertEqual(sender.change_key(), expected.change())
        self.assertEqual(sender.message([1]), expected.message([1]))
        self.assertEqual(sender.message([1]), expected.message([1]))


class Ends(HushCase):
    def test_close(self):
        for suite in SUITES:
            for many in (0, 1, 3):
                for padding in (1, 16):
                    sender, expected = (Sender(suite, key_of(suite), padding=padding),
                                        PlainSender(suite, padding))
                    for _ in range(many):
                        sender.message([1])
                        expected.message([1])
                    self.assertEqual(sender.close(), expected.close())
                    self.assert_ended(sender, many)

    def test_the_content_of_a_close(self):
        sender = Sender(SMALL, key_of(SMALL))
        data = sum([sender.message([1]) for _ in range(258)], []) + sender.close()
        self.assertEqual(opened(SMALL, data)[-1], (4, [0, 0, 0, 0, 0, 0, 1, 2], 0))

    def test_alarm(self):
        for suite in SUITES:
            for code in (0, 1, 255):
                sender, expected = Sender(suite, key_of(suite)), PlainSender(suite)
                sender.message([1])
                expected.message([1])
                self.assertEqual(sender.alarm(code), expected.record(5, [code]))
                self.assert_ended(sender, 1)
        self.assertEqual(Sender(SMALL, key_of(SMALL)).alarm(), PlainSender(SMALL).record(5, [0]))
        self.assertEqual(Sender(SMALL, key_of(SMALL)).alarm(code=7),
                         PlainSender(SMALL).record(5, [7]))

    def test_codes_that_are_no_bytes(self):
        for suite in SUITES:
            sender = Sender(suite, key_of(suite), limit=2)
            sender.message([1])
            state = sender.state()
            for code in (-1, 256, 1000):
                self.assert_out_of_range(sender.alarm, code)
                self.assertEqual(sender.state(), state)
            self.assertEqual([kind for kind, _, _ in opened(SMALL, Sender(
                SMALL, key_of(SMALL)).alarm(255))], [5])

    def test_a_change_before_the_end(self):
        for suite in SUITES:
            for end in ("close", "alarm"):
                sender, expected = (Sender(suite, key_of(suite), limit=2),
                                    PlainSender(suite, limit=2))
                sender.message([1])
                expected.message([1])
                wanted = expected.close() if end == "close" else expected.record(5, [0])
                self.assertEqual(getattr(sender, end)(), wanted)
                self.assertEqual(len(wanted), frame_size(suite, 0)
                                 + frame_size(suite, 8 if end == "close" else 1))
                self.assert_ended(sender, 1)

    def assert_ended(self, sender, many):
        self.assertEqual(sender.sent(), many)
        state = sender.state()
        self.assertEqual((state[0], state[1], state[3], state[4]), ("sender", (), many, True))
        for function, *arguments in ((sender.message, []), (sender.message, [0] * (MOST + 1)),
                                     (sender.message, None), (sender.change_key,), (sender.close,),
                                     (sender.alarm,), (sender.alarm, 256), (sender.alarm, -1),
                                     (sender.alarm, None)):
            with self.assertRaises(OutOfOrder):
                function(*arguments)
            self.assertEqual(sender.state(), state)
        self.assertEqual(sender.sent(), many)


class Constructing(HushCase):
    def test_bounds(self):
        for suite in SUITES:
            key = key_of(suite)
            for good in ({"padding": 1}, {"padding": 4096}, {"limit": 2}, {"limit": 2 ** 40},
                         {"piece": 1}, {"piece": 16384}):
                self.assertEqual(Sender(suite, key, **good).state(),
                                 ("sender", tuple(key), 0, 0, False))
            for wrong in ({"padding": 0}, {"padding": -1}, {"padding": 4097}, {"limit": 1},
                          {"limit": 0}, {"limit": -2}, {"limit": 2 ** 40 + 1}, {"piece": 0},
                          {"piece": -1}, {"piece": 16385}):
                self.assert_out_of_range(Sender, suite, key, **wrong)
            for length in (0, suite.key_size - 1, suite.key_size + 1):
                self.assert_out_of_range(Sender, suite, [1] * length)

    def test_the_order_of_the_checks(self):
        key = key_of(SMALL)
        self.assert_out_of_range(Sender, SMALL, key[1:], padding=None, limit=None, piece=None)
        self.assert_out_of_range(Sender, SMALL, key, padding=0, limit=None, piece=None)
        self.assert_out_of_range(Sender, SMALL, key, padding=4097, limit=None, piece=None)
        self.assert_out_of_range(Sender, SMALL, key, padding=1, limit=1, piece=None)
        with self.assertRaises(OutOfRange):
            Sender(SMALL, key, piece=0)

    def test_the_defaults(self):
        sender, expected = Sender(SMALL, key_of(SMALL)), PlainSender(SMALL, 1, 1048576, 16384)
        self.assertEqual(sender.message([1] * 16385), expected.message([1] * 16385))

    def test_what_is_passed_is_neither_changed_nor_kept(self):
        for suite in SUITES:
            key, data = key_of(suite), [5, 6, 7]
            sender = self.assert_keeps(lambda given: Sender(suite, given, piece=2), key)
            spoil(key)
            expected = PlainSender(suite, piece=2)
            self.assertEqual(self.assert_keeps(sender.message, data), expected.message([5, 6, 7]))
            spoil(data)
            self.assertEqual(sender.message([8]), expected.message([8]))

    def test_what_is_returned_may_be_changed(self):
        for suite in SUITES:
            sender, expected = Sender(suite, key_of(suite)), PlainSender(suite)
            spoil(sender.message([1]))
            expected.message([1])
            spoil(sender.change_key())
            expected.change()
            self.assertEqual(sender.message([2]), expected.message([2]))
            self.assertEqual(sender.state(), expected.state())
            spoil(sender.close())
            self.assertEqual(sender.state()[1], ())
            sender = Sender(suite, key_of(suite))
            spoil(sender.alarm())
            self.assertEqual(sender.state()[1], ())


if __name__ == "__main__":
    unittest.main()
