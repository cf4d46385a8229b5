import unittest

from hushlink.errors import NotAuthentic, OutOfOrder
from hushlink.suites import SmallSuite, StandardSuite
from hushlink.transcript import Transcript
from plain_noise import PlainTranscript
from support import HushCase, some_bytes, spoil

SUITES = (StandardSuite(), SmallSuite())
LABEL = "a label"


def both(suite, label=LABEL):
    return Transcript(suite, label), PlainTranscript(suite, label)


class Labels(HushCase):
    def test_lengths_of_labels(self):
        for suite in SUITES:
            size = suite.digest_size
            for length in (0, 1, size - 1, size, size + 1, 5 * size):
                label = "".join(chr(33 + k % 90) for k in range(length))
                codes = [33 + k % 90 for k in range(length)]
                start = tuple(codes + [0] * (size - length))
                if length > size:
                    start = tuple(suite.digest(codes))
                transcript = Transcript(suite, label)
                self.assertEqual(transcript.state(), (start, start, None, 0, False))
                self.assertEqual(transcript.hash(), list(start))
                self.assertIs(transcript.has_key(), False)


class Mixing(HushCase):
    def check(self, found, expected):
        self.assertEqual(found.state(), expected.state())
        self.assertEqual(found.hash(), expected.h)
        self.assertIs(found.has_key(), expected.key is not None)

    def test_data(self):
        for suite in SUITES:
            found, expected = both(suite)
            for data in ([], [5], some_bytes(100)):
                self.assertIsNone(found.mix_data(data))
                expected.data(data)
                self.check(found, expected)

    def test_a_key_input(self):
        for suite in SUITES:
            found, expected = both(suite)
            for data in ([], [5], some_bytes(100)):
                self.assertIsNone(found.mix_key(data))
                expected.key_input(data)
                self.check(found, expected)

    def test_both(self):
        for suite in SUITES:
            found, expected = both(suite)
            for data in ([], [5], some_bytes(100)):
                self.assertIsNone(found.mix_both(data))
                expected.both(data)
                self.check(found, expected)

    def test_sealing_without_a_key(self):
        for suite in SUITES:
            found, expected = both(suite)
            reader = Transcript(suite, LABEL)
            for text in ([], [5], some_bytes(100)):
                self.assertEqual(found.seal(text), text)
                self.assertEqual(reader.open_sealed(text), text)
                expected.data(text)
                self.check(found, expected)
                self.check(reader, expected)

    def test_everything_in_turn(self):
        for suite in SUITES:
            found, expected = both(suite)
            reader = Transcript(suite, LABEL)
            for number in range(8):
                data = some_bytes(number * 5, number)
                for transcript in (found, reader):
                    if number % 2:
                        transcript.mix_key(data)
                    elif number % 3:
                        transcript.mix_both(data)
                    else:
                        transcript.mix_data(data)
                if number % 2:
                    expected.key_input(data)
                elif number % 3:
                    expected.both(data)
                else:
                    expected.data(data)
                for text in ([], data, [number]):
                    sealed = found.seal(text)
                    self.assertEqual(sealed, expected.sealed(text))
                    self.assertEqual(reader.open_sealed(sealed), text)
                    self.check(found, expected)
                    self.check(reader, expected)
            self.assertEqual(found.state()[3], 3)

    def test_a_new_key_begins_with_the_number_0(self):
        for mix in ("mix_key", "mix_both"):
            transcript = Transcript(SmallSuite(), LABEL)
            transcript.mix_key([1])
            transcript.seal([])
            self.assertEqual(transcript.state()[3], 1)
            getattr(transcript, mix)([2])
            self.assertEqual(transcript.state()[3], 0)

    def test_what_does_not_open_changes_nothing(self):
        for suite in SUITES:
            writer, reader = Transcript(suite, LABEL), Transcript(suite, LABEL)
            for transcript in (writer, reader):
                transcript.mix_key([1])
            sealed = writer.seal([5, 6])
            state = reader.state()
            for wrong in ([], sealed[:-1], sealed + [0], [sealed[0] ^ 1] + sealed[1:],
                          sealed[:-1] + [sealed[-1] ^ 128]):
                with self.assertRaises(NotAuthentic):
                    reader.open_sealed(wrong)
                self.assertEqual(reader.state(), state)
            self.assertEqual(reader.open_sealed(sealed), [5, 6])
            self.assertEqual(reader.state(), writer.state())

    def test_a_text_that_is_too_long_changes_nothing(self):
        for suite in SUITES:
            transcript = Transcript(suite, LABEL)
            transcript.mix_key([1])
            state = transcript.state()
            self.assert_out_of_range(transcript.seal, [0] * 1048577)
            self.assert_out_of_range(transcript.open_sealed, [0] * (1048577 + suite.tag_size))
            self.assertEqual(transcript.state(), state)

    def test_a_digest_that_fails_changes_nothing(self):
        class NarrowSuite(SmallSuite):
            def digest(self, data):
                if len(data) > 100:
                    raise ValueError
                return SmallSuite.digest(self, data)

        for has_key in (False, True):
            transcript = Transcript(NarrowSuite(), LABEL)
            if has_key:
                transcript.mix_key([1])
            sealed = transcript.twin().seal([0] * 70)
            state = transcript.state()
            for function in (transcript.mix_data, transcript.seal):
                with self.assertRaises(ValueError):
                    function([0] * 101)
                self.assertEqual(transcript.state(), state)
            wide = Transcript(SmallSuite(), LABEL)
            if has_key:
                wide.mix_key([1])
            with self.assertRaises(ValueError):
                transcript.open_sealed(wide.seal([0] * 101))
            self.assertEqual(transcript.state(), state)
            self.assertEqual(transcript.open_sealed(sealed), [0] * 70)


class Splitting(HushCase):
    def prepared(self, suite):
        found, expected = both(suite)
        found.mix_key([1, 2])
        expected.key_input([1, 2])
        found.seal([3])
        expected.sealed([3])
        return found, expected

    def test_the_two_keys(self):
        for suite in SUITES:
            found, expected = self.prepared(suite)
            keys = found.split()
            self.assertIsInstance(keys, tuple)
            self.assertEqual(keys, expected.keys())
            self.assertEqual([len(key) for key in keys], [suite.key_size] * 2)
            self.assertEqual(found.state(), expected.state())
            self.assertIs(found.state()[4], True)

    def test_without_a_key(self):
        for suite in SUITES:
            found, expected = both(suite)
            self.assertEqual(found.split(), expected.keys())
            self.assertEqual(found.state(), expected.state())

    def test_behind_a_split(self):
        for suite in SUITES:
            found, _ = self.prepared(suite)
            twin = found.twin()
            found.split()
            state = found.state()
            sealed = twin.seal([7])
            calls = [(found.mix_data, [1]), (found.mix_key, [1]), (found.mix_both, [1]),
                     (found.seal, [1]), (found.open_sealed, [1]), (found.open_sealed, sealed),
                     (found.seal, [0] * 1048577), (found.seal, None), (found.mix_data, None),
                     (found.split,)]
            for function, *arguments in calls:
                with self.assertRaises(OutOfOrder):
                    function(*arguments)
                self.assertEqual(found.state(), state)
            self.assertEqual(found.hash(), list(state[1]))
            self.assertIs(found.has_key(), True)
            self.assertEqual(found.twin().state(), state)
            with self.assertRaises(OutOfOrder):
                found.twin().split()

    def test_twins_do_not_affect_each_other(self):
        for suite in SUITES:
            for change in ("mix_data", "mix_key", "mix_both", "seal"):
                found, _ = self.prepared(suite)
                state = found.state()
                twin = found.twin()
                self.assertIsInstance(twin, Transcript)
                self.assertEqual(twin.state(), state)
                getattr(twin, change)([9])
                self.assertNotEqual(twin.state(), state)
                self.assertEqual(found.state(), state)
                other = found.twin()
                getattr(found, change)([9])
                self.assertEqual(found.state(), twin.state())
                self.assertEqual(other.state(), state)
            twin = found.twin()
            found.split()
            self.assertIs(twin.state()[4], False)
            twin.split()


class Lists(HushCase):
    def test_what_is_passed_is_neither_changed_nor_kept(self):
        for suite in SUITES:
            for name in ("mix_data", "mix_key", "mix_both", "seal"):
                for size in (0, suite.digest_size, suite.block_size):
                    found = Transcript(suite, LABEL)
                    found.mix_key([1])
                    expected = found.twin()
                    data = [5] * size
                    self.assert_keeps(getattr(found, name), data)
                    spoil(data)
                    getattr(expected, name)([5] * size)
                    self.assertEqual(found.state(), expected.state())

    def test_what_open_sealed_is_passed(self):
        for suite in SUITES:
            for has_key in (False, True):
                writer, reader = Transcript(suite, LABEL), Transcript(suite, LABEL)
                if has_key:
                    writer.mix_key([1])
                    reader.mix_key([1])
                sealed = writer.seal([5, 6])
                text = self.assert_keeps(reader.open_sealed, sealed)
                spoil(sealed)
                spoil(text)
                self.assertEqual(reader.state(), writer.state())

    def test_what_is_returned_may_be_changed(self):
        for suite in SUITES:
            for has_key in (False, True):
                transcript = Transcript(suite, LABEL)
                if has_key:
                    transcript.mix_key([1])
                twin = transcript.twin()
                self.assert_fresh(transcript.hash)
                text = [5, 6]
                spoil(transcript.seal(text))
                self.assertEqual(text, [5, 6])
                twin.seal([5, 6])
                self.assertEqual(transcript.state(), twin.state())
                spoil(transcript.split())
                twin.split()
                self.assertEqual(transcript.state(), twin.state())


if __name__ == "__main__":
    unittest.main()
