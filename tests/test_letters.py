import random
import unittest

from hushlink.errors import Exhausted, Malformed, NotAuthentic, OutOfOrder
from hushlink.letters import LetterReceiver, LetterSender, Window
from hushlink.suites import SmallSuite, StandardSuite
from support import HushCase, some_bytes, spoil

STANDARD, SMALL = StandardSuite(), SmallSuite()
SUITES = (STANDARD, SMALL)
LAST = 2 ** 64 - 1


def key_of(suite):
    return some_bytes(suite.key_size)


def head_of(number):
    return list(number.to_bytes(8, "big"))


def sealed_letter(suite, number, text):
    return head_of(number) + suite.seal(key_of(suite), number, head_of(number), text)


class Windows(HushCase):
    def test_bounds_of_the_size(self):
        for size in (-1, 0, 4097):
            self.assert_out_of_range(Window, size)
        for size in (1, 2, 64, 4096):
            self.assertEqual(Window(size).state(), ())

    def test_bounds_of_the_number(self):
        window = Window(64)
        for number in (-1, LAST, LAST + 1):
            self.assert_out_of_range(window.fresh, number)
            self.assert_out_of_range(window.take, number)
        self.assertEqual(window.state(), ())
        for number in (0, LAST - 1):
            self.assertTrue(window.fresh(number))
            self.assertTrue(window.take(number))
            self.assertFalse(window.fresh(number))
            for wrong in (-1, LAST):
                self.assert_out_of_range(window.fresh, wrong)
                self.assert_out_of_range(window.take, wrong)
        self.assertEqual(window.state(), (LAST - 1,))

    def test_edges(self):
        for size in (1, 2, 64, 4096):
            window = Window(size)
            self.assertTrue(window.take(10000))
            self.assertFalse(window.fresh(10000 - size))
            self.assertFalse(window.take(10000 - size))
            self.assertFalse(window.take(10000))
            self.assertEqual(window.state(), (10000,))
            if size > 1:
                self.assertTrue(window.fresh(10000 - size + 1))
                self.assertTrue(window.take(10000 - size + 1))
                self.assertFalse(window.take(10000 - size + 1))
                self.assertEqual(window.state(), (10000 - size + 1, 10000))
            self.assertTrue(window.take(10001))
            self.assertFalse(window.fresh(10001 - size))
            self.assertEqual(window.state(), (10000, 10001)[-min(size, 2):])

    def test_every_number_is_fresh_at_first(self):
        for size in (1, 64):
            for number in (0, 1, 77, 2 ** 63, LAST - 1):
                window = Window(size)
                self.assertTrue(window.fresh(number))
                self.assertTrue(window.take(number))
                self.assertEqual(window.state(), (number,))

    def test_against_a_plain_window(self):
        drawn = random.Random(3)
        for size in (1, 2, 3, 7, 64):
            for _ in range(20):
                window, taken, base = Window(size), [], drawn.choice((0, 5, 1000, 2 ** 40))
                for _ in range(60):
                    number = max(0, base + drawn.randrange(-2 * size - 2, 2 * size + 2))
                    base += drawn.choice((0, 0, 1, size))
                    expected = number not in taken and (not taken or number > max(taken) - size)
                    before = window.state()
                    self.assertIs(window.fresh(number), expected)
                    self.assertIs(window.fresh(number), expected)
                    self.assertEqual(window.state(), before)
                    self.assertIs(window.take(number), expected)
                    if expected:
                        taken.append(number)
                    matter = [one for one in taken if one > max(taken) - size]
                    self.assertEqual(window.state(), tuple(sorted(matter)))

    def test_a_whole_window(self):
        window = Window(4096)
        for number in range(4095, -1, -1):
            self.assertTrue(window.take(number))
        self.assertEqual(window.state(), tuple(range(4096)))
        self.assertTrue(window.take(5000))
        self.assertEqual(window.state(), tuple(range(905, 4096)) + (5000,))
        self.assertFalse(window.fresh(904))
        self.assertTrue(window.fresh(4999))


class Senders(HushCase):
    def test_bounds(self):
        for suite in SUITES:
            key = key_of(suite)
            for wrong in ([], key[1:], key + [0]):
                self.assert_out_of_range(LetterSender, suite, wrong)
            for padding in (-1, 0, 4097):
                self.assert_out_of_range(LetterSender, suite, key, padding=padding)
            with self.assertRaises(TypeError):
                LetterSender(suite, key, 16)

    def test_byte_by_byte(self):
        for suite in SUITES:
            for padding in (1, 16, 4096):
                sender = LetterSender(suite, key_of(suite), padding=padding)
                for number, size in enumerate((0, 1, 14, 15, 16, 17, 100, 4095, 4096)):
                    message = some_bytes(size, size + 3)
                    text = message + [1]
                    while len(text) % padding:
                        text.append(0)
                    self.assertEqual(sender.number(), number)
                    self.assertEqual(self.assert_keeps(sender.letter, message),
                                     sealed_letter(suite, number, text))
                self.assertEqual(sender.number(), 9)

    def test_the_longest_message(self):
        for suite in SUITES:
            sender = LetterSender(suite, key_of(suite))
            message = some_bytes(16385)
            self.assert_out_of_range(sender.letter, message)
            self.assertEqual(sender.number(), 0)
            self.assertEqual(sender.letter(message[1:]), sealed_letter(suite, 0, message[1:] + [1]))

    def test_skip(self):
        sender = LetterSender(SMALL, key_of(SMALL))
        self.assertIsNone(sender.skip(0))
        self.assertEqual(sender.number(), 0)
        sender.skip(5)
        self.assertEqual(sender.letter([1]), sealed_letter(SMALL, 5, [1, 1]))
        self.assertEqual(sender.number(), 6)
        sender.skip(LAST - 7)
        self.assertEqual(sender.number(), LAST - 1)
        self.assertEqual(sender.letter([1]), sealed_letter(SMALL, LAST - 1, [1, 1]))
        self.assertEqual(sender.number(), LAST)
        for _ in range(2):
            with self.assertRaises(Exhausted):
                sender.letter([1])
            self.assert_out_of_range(sender.letter, [0] * 16385)
            sender.skip(1)
            self.assertEqual(sender.number(), LAST)

    def test_skip_beyond_the_end(self):
        for count in (LAST - 3, LAST - 2, LAST, 2 ** 70):
            sender = LetterSender(STANDARD, key_of(STANDARD))
            sender.skip(3)
            sender.skip(count)
            self.assertEqual(sender.number(), LAST)
            with self.assertRaises(Exhausted):
                sender.letter([])

    def test_lists_are_their_own(self):
        key = key_of(SMALL)
        sender = self.assert_keeps(lambda given: LetterSender(SMALL, given), key)
        spoil(key)
        letter = sender.letter([1])
        self.assertEqual(letter, sealed_letter(SMALL, 0, [1, 1]))
        spoil(letter)
        self.assertEqual(sender.letter([1]), sealed_letter(SMALL, 1, [1, 1]))


class Receivers(HushCase):
    def test_bounds(self):
        for suite in SUITES:
            key = key_of(suite)
            for wrong in ([], key[1:], key + [0]):
                self.assert_out_of_range(LetterReceiver, suite, wrong)
            for size in (-1, 0, 4097):
                self.assert_out_of_range(LetterReceiver, suite, key, size=size)
            for size in (1, 4096):
                LetterReceiver(suite, key, size=size)

    def test_letters_arrive(self):
        for suite in SUITES:
            for padding in (1, 16, 4096):
                sender = LetterSender(suite, key_of(suite), padding=padding)
                receiver = LetterReceiver(suite, key_of(suite))
                for number, size in enumerate((0, 1, 15, 16, 200, 16384)):
                    message = some_bytes(size, 9)
                    letter = sender.letter(message)
                    self.assertEqual(self.assert_keeps(receiver.receive, letter), message)
                    self.assertEqual(receiver.state(), tuple(range(number + 1)))

    def test_messages_that_end_like_padding(self):
        sender = LetterSender(SMALL, key_of(SMALL), padding=8)
        receiver = LetterReceiver(SMALL, key_of(SMALL))
        for message in ([0], [1], [0, 0, 0], [1, 0, 0], [1, 1], [0] * 8, [1] + [0] * 7):
            self.assertEqual(receiver.receive(sender.letter(message)), message)

    def test_the_size_that_is_not_given(self):
        receiver = LetterReceiver(SMALL, key_of(SMALL))
        receiver.receive(sealed_letter(SMALL, 100, [1]))
        self.assertEqual(receiver.receive(sealed_letter(SMALL, 37, [1])), [])
        with self.assertRaises(OutOfOrder):
            receiver.receive(sealed_letter(SMALL, 36, [1]))

    def test_order(self):
        for suite in SUITES:
            for size in (1, 2, 5):
                receiver = LetterReceiver(suite, key_of(suite), size=size)
                letters = [sealed_letter(suite, number, [number, 1]) for number in range(12)]
                self.assertEqual(receiver.receive(letters[10]), [10])
                for number in range(10, 10 - size, -1):
                    if number < 10:
                        self.assertEqual(receiver.receive(letters[number]), [number])
                    with self.assertRaises(OutOfOrder):
                        receiver.receive(letters[number])
                with self.assertRaises(OutOfOrder):
                    receiver.receive(letters[10 - size])
                self.assertEqual(receiver.receive(letters[11]), [11])

    def test_too_short(self):
        for suite in SUITES:
            receiver = LetterReceiver(suite, key_of(suite))
            letter = sealed_letter(suite, 0, [])
            self.assertEqual(len(letter), 8 + suite.tag_size)
            # Also where the number is not fresh, or none.
            receiver.receive(sealed_letter(suite, 7, [1]))
            for wrong in ([], letter, letter[:8], [255] * len(letter), sealed_letter(suite, 7, [])):
                with self.assertRaises(Malformed):
                    receiver.receive(wrong)
            self.assertEqual(receiver.state(), (7,))
            self.assertEqual(receiver.receive(sealed_letter(suite, 0, [1])), [])

    def test_numbers_that_are_not_fresh(self):
        for suite in SUITES:
            receiver = LetterReceiver(suite, key_of(suite), size=2)
            letter = sealed_letter(suite, 5, [9, 1])
            receiver.receive(letter)
            spoilt = letter[:-1] + [letter[-1] ^ 1]
            last = head_of(LAST) + suite.seal(key_of(suite), LAST, head_of(LAST), [9, 1])
            for wrong in (letter, spoilt, sealed_letter(suite, 3, [1]), head_of(3) + [0] * 99, last):
                with self.assertRaises(OutOfOrder):
                    receiver.receive(wrong)
            with self.assertRaises(OutOfOrder):
                LetterReceiver(suite, key_of(suite)).receive(last)
            self.assertEqual(receiver.state(), (5,))

    def test_what_does_not_open(self):
        for suite in SUITES:
            receiver = LetterReceiver(suite, key_of(suite))
            letter = sealed_letter(suite, 3, [7, 8, 1, 0])
            for place in range(len(letter)):
                wrong = list(letter)
                wrong[place] ^= 1
                with self.assertRaises(NotAuthentic):
                    receiver.receive(wrong)
            for wrong in (letter[:-1], letter + [0], sealed_letter(suite, 3, [1])[:8] + letter[9:]):
                with self.assertRaises(NotAuthentic):
                    receiver.receive(wrong)
            self.assertEqual(receiver.state(), ())
            self.assertEqual(receiver.receive(letter), [7, 8])

    def test_another_head(self):
        for suite in SUITES:
            receiver = LetterReceiver(suite, key_of(suite))
            with self.assertRaises(NotAuthentic):
                receiver.receive(head_of(3) + suite.seal(key_of(suite), 3, [], [7, 1]))

    def test_very_long_letters(self):
        for suite in SUITES:
            receiver = LetterReceiver(suite, key_of(suite))
            most = 1048584 + suite.tag_size
            for size in (most, most + 1, most + 5):
                with self.assertRaises(NotAuthentic):
                    receiver.receive([0] * size)
            self.assertEqual(receiver.state(), ())
            receiver.receive(sealed_letter(suite, 0, [1]))
            with self.assertRaises(OutOfOrder):
                receiver.receive([0] * (most + 1))
        # The longest thing that can be sealed still opens.
        receiver = LetterReceiver(SMALL, key_of(SMALL))
        self.assertEqual(receiver.receive(sealed_letter(SMALL, 0, [5, 1] + [0] * 1048574)), [5])

    def test_wrong_texts(self):
        for suite in SUITES:
            receiver, number = LetterReceiver(suite, key_of(suite)), 0
            for text in ([0], [0] * 20, [2], [5, 0], [1, 2, 0, 0], [1, 255], [0] * 16385 + [1]):
                letter = sealed_letter(suite, number, text)
                with self.assertRaises(Malformed):
                    receiver.receive(letter)
                number += 1
                # The number is taken.
                self.assertEqual(receiver.state(), tuple(range(number)))
                with self.assertRaises(OutOfOrder):
                    receiver.receive(letter)
            text = some_bytes(16384) + [1] + [0] * 4095
            self.assertEqual(receiver.receive(sealed_letter(suite, number, text)), text[:16384])

    def test_lists_are_their_own(self):
        key = key_of(SMALL)
        receiver = LetterReceiver(SMALL, key)
        spoil(key)
        letter = sealed_letter(SMALL, 0, [4, 1])
        message = receiver.receive(letter)
        spoil(message)
        self.assertEqual(letter, sealed_letter(SMALL, 0, [4, 1]))
        self.assertEqual(receiver.receive(sealed_letter(SMALL, 1, [4, 1])), [4])


if __name__ == "__main__":
    unittest.main()
