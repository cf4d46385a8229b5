import random
import unittest

from hushlink.receiving import Receiver
from hushlink.sending import Sender
from hushlink.suites import SmallSuite, StandardSuite
from support import HushCase, some_bytes, spoil

STANDARD, SMALL = StandardSuite(), SmallSuite()
SUITES = (STANDARD, SMALL)
MOST = 1048576


def key_of(suite):
    return some_bytes(suite.key_size)


def later_key(suite, key):
    return suite.keyed(key, list(b"hushlink next key"))


def record(kind, content, fill=(), size=None):
    size = len(content) if size is None else size
    return [kind, size // 256, size % 256] + list(content) + list(fill)


def frame(suite, number, text, key=None):
    """The frame of a record, made with the suite itself."""
    size = len(text) + suite.tag_size
    head = [size // 256, size % 256]
    return head + suite.seal(key or key_of(suite), number, head, text)


def count(number):
    return list(number.to_bytes(8, "big"))


def plain_events(suite, data, limit):
    """What the points 136 and 137 make of whole frames, written down plainly."""
    key, number, many, pieces, events = key_of(suite), 0, 0, [], []
    while len(data) >= 2:
        size = 256 * data[0] + data[1]
        if size < suite.tag_size + 3 or size > suite.tag_size + 20482:
            return events + [("failed", "length")]
        if len(data) < 2 + size:
            break
        try:
            text = suite.open_sealed(key, number, data[:2], data[2:2 + size])
        except ValueError:
            return events + [("failed", "seal")]
        data = data[2 + size:]
        kind, size = text[0], 256 * text[1] + text[2]
        content, fill = text[3:3 + size], text[3 + size:]
        wanted = {1: range(0, 16385), 2: range(1, 16385), 3: [0], 4: [8], 5: [1]}
        if (kind not in wanted or len(content) < size or any(fill) or len(fill) > 4095
                or size not in wanted[kind]):
            return events + [("failed", "form")]
        if number == limit - 1 and kind != 3:
            return events + [("failed", "order")]
        number += 1
        if kind == 3:
            key, number = later_key(suite, key), 0
            events.append(("changed",))
        if kind == 4:
            if pieces or int.from_bytes(bytes(content), "big") != many:
                return events + [("failed", "order")]
            return events + [("closed",)]
        if kind == 5:
            return events + [("alarm", content[0])]
        if kind in (1, 2):
            pieces = pieces + content
            if len(pieces) > MOST:
                return events + [("failed", "size")]
            if kind == 1:
                events.append(("message", pieces))
                pieces, many = [], many + 1
    return events


class ReceivingCase(HushCase):
    def assert_ends(self, receiver, data, expected, ending, many=0):
        """The bytes have this one event, and nothing comes behind it."""
        self.assertEqual(receiver.receive(data), [expected])
        state = ("receiver", (), 0, many, (), (), ending)
        for more in ([], data, [0, 0], frame(receiver.suite, 0, record(1, [1]))):
            self.assertTrue(receiver.over())
            self.assertEqual(receiver.state(), state)
            self.assertEqual(receiver.receive(more), [])
        self.assertEqual(receiver.state(), state)

    def assert_fails(self, suite, data, reason, limit=MOST, before=(), many=0):
        """Some frames come, and the next bytes fail with a reason."""
        receiver = Receiver(suite, key_of(suite), limit=limit)
        for part in before:
            receiver.receive(part)
        self.assertFalse(receiver.over())
        self.assert_ends(receiver, data, ("failed", reason), "failed", many)

    def assert_message(self, suite, text, message, before=()):
        receiver = Receiver(suite, key_of(suite))
        for part in before:
            self.assertEqual(receiver.receive(part), [])
        self.assertEqual(receiver.receive(frame(suite, len(before), text)), [("message", message)])


class Constructor(HushCase):
    def test_bounds(self):
        for suite in SUITES:
            key = key_of(suite)
            for wrong in ([], key[1:], key + [0]):
                self.assert_out_of_range(Receiver, suite, wrong)
            for limit in (-1, 0, 1, 2 ** 40 + 1):
                self.assert_out_of_range(Receiver, suite, key, limit=limit)
            for limit in (2, 2 ** 40):
                Receiver(suite, key, limit=limit)
            with self.assertRaises(TypeError):
                Receiver(suite, key, 5)

    def test_a_new_receiver(self):
        for suite in SUITES:
            key = key_of(suite)
            receiver = self.assert_keeps(lambda given: Receiver(suite, given), key)
            expected = ("receiver", tuple(key), 0, 0, (), (), "")
            key[0] ^= 1
            self.assertEqual(receiver.state(), expected)
            self.assertFalse(receiver.over())

    def test_the_limit_that_is_not_given(self):
        receiver, sender = Receiver(SMALL, key_of(SMALL)), Sender(SMALL, key_of(SMALL))
        # As if all numbers before the last one had been used.
        receiver.used = sender.used = 1048575
        data = sender.message([1])
        self.assertEqual(receiver.receive(data), [("changed",), ("message", [1])])
        receiver = Receiver(SMALL, key_of(SMALL))
        receiver.used = 1048574
        data = frame(SMALL, 1048574, record(1, [1])) + frame(SMALL, 1048575, record(1, [1]))
        self.assertEqual(receiver.receive(data), [("message", [1]), ("failed", "order")])


class Channel(HushCase):
    """What a Sender of the project sends arrives."""

    def sent(self, suite, padding, limit, piece):
        sender = Sender(suite, key_of(suite), padding=padding, limit=limit, piece=piece)
        messages = [some_bytes(size, size + 1) for size in (0, 1, piece, piece + 1, 3 * piece)]
        data = []
        for message in messages:
            data += sender.message(message)
        return messages, data + sender.close()

    def assert_arrives(self, suite, padding, limit, piece):
        messages, data = self.sent(suite, padding, limit, piece)
        receiver = Receiver(suite, key_of(suite), limit=limit)
        events = self.assert_keeps(receiver.receive, data)
        self.assertEqual(events, plain_events(suite, data, limit))
        self.assertEqual([event[1] for event in events if event[0] == "message"], messages)
        self.assertEqual(events[-1], ("closed",))
        self.assertTrue(receiver.over())
        self.assertEqual(receiver.state(), ("receiver", (), 0, len(messages), (), (), "closed"))
        return events, data

    def assert_cuts(self, suite, events, data, limit, drawn):
        """The same events come for the same bytes, however they are cut."""
        for way in range(3):
            receiver, found, start = Receiver(suite, key_of(suite), limit=limit), [], 0
            while start < len(data):
                size = 1 if way == 0 else drawn.choice((0, 1, 2, 5, 40, 300))
                found += receiver.receive(data[start:start + size])
                found += receiver.receive([])
                start += size
                whole = Receiver(suite, key_of(suite), limit=limit)
                if way == 1:
                    whole.receive(data[:start])
                    self.assertEqual(receiver.state(), whole.state())
                    self.assertEqual(receiver.over(), whole.over())
            self.assertEqual(found, events)
            self.assertTrue(receiver.over())

    def test_small(self):
        drawn = random.Random(5)
        for padding in (1, 2, 16, 100):
            for limit in (2, 3, 4, MOST):
                for piece in (1, 3, 50):
                    with self.subTest(padding=padding, limit=limit, piece=piece):
                        events, data = self.assert_arrives(SMALL, padding, limit, piece)
                        self.assert_cuts(SMALL, events, data, limit, drawn)

    def test_standard(self):
        drawn = random.Random(6)
        for padding, limit, piece in ((1, MOST, 20), (16, 2, 7), (1, 3, 9)):
            events, data = self.assert_arrives(STANDARD, padding, limit, piece)
            receiver, found = Receiver(STANDARD, key_of(STANDARD), limit=limit), []
            while data:
                size = drawn.choice((0, 1, 5, 60))
                found += receiver.receive(data[:size])
                data = data[size:]
            self.assertEqual(found, events)

    def test_greatest_sizes(self):
        for padding in (4096, 1):
            self.assert_arrives(SMALL, padding, MOST, 16384)

    def test_a_change_before_the_limit_asks_for_it(self):
        for suite in SUITES:
            sender = Sender(suite, key_of(suite), limit=3)
            receiver = Receiver(suite, key_of(suite), limit=3)
            data = sender.change_key() + sender.change_key() + sender.message([5])
            events = [("changed",), ("changed",), ("message", [5])]
            self.assertEqual(receiver.receive(data), events)
            key = later_key(suite, later_key(suite, key_of(suite)))
            self.assertEqual(receiver.state(), ("receiver", tuple(key), 1, 1, (), (), ""))

    def test_drawn_bytes(self):
        """Whatever comes, the messages are the first ones that were sent."""
        drawn = random.Random(7)
        for turn in range(200):
            limit, piece = drawn.choice((2, 3, 5, MOST)), drawn.choice((1, 3, 50))
            messages, data = self.sent(SMALL, drawn.choice((1, 4)), limit, piece)
            for _ in range(drawn.randrange(3)):
                place = drawn.randrange(len(data))
                data[place:place + drawn.randrange(3)] = [drawn.randrange(256)] * drawn.randrange(3)
            receiver = Receiver(SMALL, key_of(SMALL), limit=limit)
            events = receiver.receive(data)
            self.assertEqual(events, plain_events(SMALL, data, limit))
            came = [event[1] for event in events if event[0] == "message"]
            self.assertEqual(came, messages[:len(came)])
            if ("closed",) in events:
                self.assertEqual(came, messages)

    def test_in_the_middle(self):
        for suite in SUITES:
            key = key_of(suite)
            receiver = Receiver(suite, key)
            first, second = frame(suite, 0, record(2, [1, 2])), frame(suite, 1, record(1, [3]))
            self.assertEqual(receiver.receive(first[:1]), [])
            self.assertEqual(receiver.state(),
                             ("receiver", tuple(key), 0, 0, (), (first[0],), ""))
            self.assertEqual(receiver.receive(first[1:-1]), [])
            self.assertEqual(receiver.state(),
                             ("receiver", tuple(key), 0, 0, (), tuple(first[:-1]), ""))
            self.assertEqual(receiver.receive(first[-1:] + second[:7]), [])
            self.assertEqual(receiver.state(),
                             ("receiver", tuple(key), 1, 0, (1, 2), tuple(second[:7]), ""))
            self.assertEqual(receiver.receive(second[7:]), [("message", [1, 2, 3])])
            self.assertEqual(receiver.state(), ("receiver", tuple(key), 2, 1, (), (), ""))

    def test_between_pieces(self):
        for suite in SUITES:
            key = key_of(suite)
            later = later_key(suite, key)
            data = frame(suite, 0, record(2, [1])) + frame(suite, 1, record(3, []))
            data += frame(suite, 0, record(2, [2]), later)
            receiver = Receiver(suite, key)
            self.assertEqual(receiver.receive(data), [("changed",)])
            self.assertEqual(receiver.state(), ("receiver", tuple(later), 1, 0, (1, 2), (), ""))
            data = frame(suite, 1, record(1, []), later) + frame(suite, 2, record(2, [9]), later)
            self.assertEqual(receiver.receive(data), [("message", [1, 2])])
            alarm = frame(suite, 3, record(5, [77]), later)
            self.assertEqual(receiver.receive(alarm), [("alarm", 77)])
            self.assertEqual(receiver.state(), ("receiver", (), 0, 1, (), (), "alarm"))

    def test_lists_are_their_own(self):
        receiver = Receiver(SMALL, key_of(SMALL))
        first, second = frame(SMALL, 0, record(2, [1])), frame(SMALL, 1, record(1, [2]))
        receiver.receive(first)
        spoil(first)
        half = second[:9]
        receiver.receive(half)
        spoil(half)
        events = receiver.receive(second[9:])
        self.assertEqual(events, [("message", [1, 2])])
        spoil(events)
        self.assertEqual(receiver.state()[3:], (1, (), (), ""))
        self.assertEqual(receiver.receive(frame(SMALL, 2, record(1, [8]))), [("message", [8])])


class Ends(ReceivingCase):
    def test_close(self):
        for suite in SUITES:
            receiver = Receiver(suite, key_of(suite))
            self.assert_ends(receiver, frame(suite, 0, record(4, count(0))), ("closed",), "closed")
            receiver = Receiver(suite, key_of(suite))
            receiver.receive(frame(suite, 0, record(1, [1])))
            data = frame(suite, 1, record(4, count(1))) + frame(suite, 2, record(1, [1]))
            self.assert_ends(receiver, data, ("closed",), "closed", many=1)

    def test_alarm(self):
        for suite in SUITES:
            for code in (0, 255):
                receiver = Receiver(suite, key_of(suite))
                receiver.receive(frame(suite, 0, record(2, [1])))
                data = frame(suite, 1, record(5, [code])) + [0, 0, 0]
                self.assert_ends(receiver, data, ("alarm", code), "alarm")


class Length(ReceivingCase):
    def test_bounds(self):
        for suite in SUITES:
            for size in (0, 1, suite.tag_size, suite.tag_size + 2, suite.tag_size + 20483, 65535):
                head = [size // 256, size % 256]
                self.assert_fails(suite, head, "length")
                self.assert_fails(suite, head[1:], "length", before=[head[:1]])
                self.assert_fails(suite, head + [0] * 30000, "length")
            for size in (suite.tag_size + 3, suite.tag_size + 20482):
                receiver = Receiver(suite, key_of(suite))
                self.assertEqual(receiver.receive([size // 256, size % 256] + [0] * (size - 1)), [])
                self.assertFalse(receiver.over())
                self.assert_ends(receiver, [0], ("failed", "seal"), "failed")

    def test_behind_a_message(self):
        receiver = Receiver(SMALL, key_of(SMALL))
        data = frame(SMALL, 0, record(1, [1])) + [0, 10]
        self.assertEqual(receiver.receive(data), [("message", [1]), ("failed", "length")])
        self.assertEqual(receiver.state(), ("receiver", (), 0, 1, (), (), "failed"))


class Seal(ReceivingCase):
    def test_a_changed_byte(self):
        for suite in SUITES:
            data = frame(suite, 0, record(1, [1, 2, 3]))
            for place in range(2, len(data)):
                changed = list(data)
                changed[place] ^= 1 + place % 255
                self.assert_fails(suite, changed, "seal")
            # A changed length lets it wait, or take other bytes.
            shorter = [data[0], data[1] - 1] + data[2:]
            self.assert_fails(suite, shorter, "seal")
            longer = Receiver(suite, key_of(suite))
            self.assertEqual(longer.receive([data[0], data[1] + 1] + data[2:]), [])
            self.assert_ends(longer, [0], ("failed", "seal"), "failed")

    def test_another_number_key_or_head(self):
        for suite in SUITES:
            text = record(1, [1])
            self.assert_fails(suite, frame(suite, 1, text), "seal")
            self.assert_fails(suite, frame(suite, 0, text), "seal", before=[frame(suite, 0, text)],
                              many=1)
            self.assert_fails(suite, frame(suite, 0, text, later_key(suite, key_of(suite))), "seal")
            size = len(text) + suite.tag_size
            sealed = suite.seal(key_of(suite), 0, [], text)
            self.assert_fails(suite, [size // 256, size % 256] + sealed, "seal")

    def test_behind_a_change(self):
        for suite in SUITES:
            change = frame(suite, 0, record(3, []))
            self.assert_fails(suite, frame(suite, 1, record(1, [1])), "seal", before=[change])
            self.assert_fails(suite, frame(suite, 0, record(1, [1])), "seal", before=[change])


class Form(ReceivingCase):
    def test_kinds(self):
        for suite in SUITES:
            for kind in (0, 6, 7, 128, 255):
                for content in ([], [1], count(0)):
                    self.assert_fails(suite, frame(suite, 0, record(kind, content)), "form")

    def test_content_longer_than_the_record(self):
        for suite in SUITES:
            for kind in (1, 2, 3, 4, 5):
                self.assert_fails(suite, frame(suite, 0, record(kind, [], size=1)), "form")
                self.assert_fails(suite, frame(suite, 0, record(kind, [], size=65535)), "form")
            self.assert_fails(suite, frame(suite, 0, record(1, [1, 2], size=3)), "form")
            self.assert_fails(suite, frame(suite, 0, record(5, [], size=1)), "form")
            self.assert_message(suite, record(1, [1, 2], size=2), [1, 2])
            # A record of 3 bytes.
            self.assert_message(suite, [1, 0, 0], [])

    def test_padding(self):
        for suite in SUITES:
            self.assert_message(suite, record(1, [7], [0] * 9), [7])
            for place in range(9):
                fill = [0] * 9
                fill[place] = 1 + 31 * place
                self.assert_fails(suite, frame(suite, 0, record(1, [7], fill)), "form")
            self.assert_message(suite, record(1, [7], [0] * 4095), [7])
            self.assert_message(suite, record(1, [], [0] * 4095), [])
            self.assert_fails(suite, frame(suite, 0, record(1, [7], [0] * 4096)), "form")

    def test_lengths_of_pieces(self):
        for suite in SUITES:
            piece = some_bytes(16385)
            self.assert_message(suite, record(1, piece[1:]), piece[1:])
            self.assert_message(suite, record(1, piece[1:], [0] * 4095), piece[1:])
            first = frame(suite, 0, record(2, piece[1:]))
            self.assert_message(suite, record(1, [1]), piece[1:] + [1], before=[first])
            for kind in (1, 2):
                self.assert_fails(suite, frame(suite, 0, record(kind, piece)), "form")
            self.assert_fails(suite, frame(suite, 0, record(2, [])), "form")
            self.assert_fails(suite, frame(suite, 0, record(2, [], [0, 0])), "form")
            first = frame(suite, 0, record(2, [9]))
            self.assert_message(suite, record(1, []), [9], before=[first])

    def test_lengths_of_the_other_kinds(self):
        for suite in SUITES:
            wrong = ((3, [[0], [0] * 8]), (4, [[], count(0)[1:], count(0) + [0]]),
                     (5, [[], [0, 0], [0] * 8]))
            for kind, contents in wrong:
                for content in contents:
                    self.assert_fails(suite, frame(suite, 0, record(kind, content)), "form")
                    self.assert_fails(suite, frame(suite, 0, record(kind, content, [0] * 9)), "form")

    def test_padding_behind_the_other_kinds(self):
        for suite in SUITES:
            receiver = Receiver(suite, key_of(suite))
            data = frame(suite, 0, record(3, [], [0] * 5))
            self.assertEqual(receiver.receive(data), [("changed",)])
            later = later_key(suite, key_of(suite))
            data = frame(suite, 0, record(4, count(0), [0] * 5), later)
            self.assertEqual(receiver.receive(data), [("closed",)])

    def test_form_comes_before_order(self):
        for suite in SUITES:
            first = frame(suite, 0, record(2, [1]))
            for text in (record(0, []), record(4, []), record(1, [1], [1]), record(3, [0])):
                self.assert_fails(suite, frame(suite, 1, text), "form", limit=2, before=[first])


class Order(ReceivingCase):
    def test_at_the_limit(self):
        for suite in SUITES:
            for limit in (2, 3):
                before = [frame(suite, number, record(1, [])) for number in range(limit - 1)]
                contents = {1: [1], 2: [1], 4: count(limit - 1), 5: [0]}
                for kind, content in contents.items():
                    data = frame(suite, limit - 1, record(kind, content))
                    self.assert_fails(suite, data, "order", limit, before, many=limit - 1)
                receiver = Receiver(suite, key_of(suite), limit=limit)
                data = frame(suite, limit - 1, record(3, []))
                self.assertEqual(receiver.receive(sum(before, []) + data)[-1], ("changed",))
                # One number earlier, or later without such a limit, all kinds may come.
                for kind, content in contents.items():
                    receiver = Receiver(suite, key_of(suite), limit=limit + 1)
                    receiver.receive(sum(before, []))
                    events = receiver.receive(frame(suite, limit - 1, record(kind, content)))
                    self.assertNotIn(("failed", "order"), events)

    def test_close_behind_a_piece(self):
        for suite in SUITES:
            before = [frame(suite, 0, record(2, [1]))]
            for number in (0, 1):
                data = frame(suite, 1, record(4, count(number)))
                self.assert_fails(suite, data, "order", before=before)

    def test_close_with_another_number(self):
        for suite in SUITES:
            before = [frame(suite, 0, record(1, [1]))]
            for number in (0, 2, 2 ** 56 + 1, 2 ** 64 - 1):
                data = frame(suite, 1, record(4, count(number)))
                self.assert_fails(suite, data, "order", before=before, many=1)
            self.assert_fails(suite, frame(suite, 0, record(4, count(1))), "order")

    def test_order_comes_before_size(self):
        for kind, number in ((1, 64), (2, 64)):
            before = [frame(SMALL, place, record(2, [0] * 16384)) for place in range(number)]
            data = frame(SMALL, number, record(kind, [1]))
            self.assert_fails(SMALL, data, "order", limit=number + 1, before=before)
            self.assert_fails(SMALL, data, "size", limit=number + 2, before=before)


class Size(ReceivingCase):
    def test_the_greatest_message(self):
        pieces = [frame(SMALL, place, record(2, [place] * 16384)) for place in range(63)]
        joined = [place for place in range(63) for _ in range(16384)]
        self.assert_message(SMALL, record(1, [7] * 16384), joined + [7] * 16384, before=pieces)
        last = frame(SMALL, 63, record(2, [7] * 16383))
        before = pieces + [last]
        self.assert_message(SMALL, record(1, [8]), joined + [7] * 16383 + [8], before=before)
        for kind in (1, 2):
            data = frame(SMALL, 64, record(kind, [8, 9]))
            self.assert_fails(SMALL, data, "size", before=before)

    def test_standard(self):
        receiver = Receiver(STANDARD, key_of(STANDARD))
        # As if these pieces had come.
        receiver.parts = [0] * (MOST - 1)
        self.assertEqual(receiver.receive(frame(STANDARD, 0, record(2, [1]))), [])
        self.assertEqual(receiver.receive(frame(STANDARD, 1, record(1, []))),
                         [("message", [0] * (MOST - 1) + [1])])
        receiver.parts = [0] * (MOST - 1)
        self.assert_ends(receiver, frame(STANDARD, 2, record(2, [1, 2])), ("failed", "size"),
                         "failed", many=1)


if __name__ == "__main__":
    unittest.main()
