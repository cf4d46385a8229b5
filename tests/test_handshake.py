import unittest

from hushlink.catalog import PATTERN_NAMES, pattern_named
from hushlink.errors import Malformed, NotAuthentic, OutOfOrder, OutOfRange, Refused
from hushlink.handshake import Handshake
from hushlink.pattern import Pattern, parse_pattern
from hushlink.suites import SmallSuite, StandardSuite
from plain_noise import PlainTranscript, plain_run
from support import HushCase, some_bytes, spoil

STANDARD, SMALL = StandardSuite(), SmallSuite()
SUITES = (STANDARD, SMALL)
PSK = some_bytes(32, 9)
PROLOGUE = [1, 2, 3]
MOST = 65535
FALLBACKS = ("NN", "NX", "XN", "XX", "IN", "IX", "NK1", "NX1", "X1N", "XK1", "X1K1", "X1X", "XX1",
             "X1X1", "I1N", "IK1", "I1K1", "I1X", "IX1", "I1X1")
FEW = ("XX", "IK", "KK", "X1X1", "NNpsk0", "NNpsk0+psk2", "XXpsk3", "IKpsk1+psk2", "Xpsk1",
       "XXfallback", "IXfallback", "XXfallback+psk0+psk1+psk2", "NK1fallback")
# Needs each part of both ends: the keys of both pre-messages and the psk.
EVERYTHING = Pattern("all", (("e", "s"), ("e", "s")),
                     (("->", ("ee", "es", "psk")), ("<-", ("se", "ss"))))


def secret_keys(suite):
    return {name: some_bytes(suite.key_size, k) for k, name in enumerate(("oe", "os", "ae", "as"))}


def parts(suite, pattern, opener):
    """The parts that an end needs, by the names of the parameters."""
    keys = secret_keys(suite)
    own, other = ("o", "a") if opener else ("a", "o")
    own_before, other_before = pattern.before if opener else pattern.before[::-1]
    arrow = "->" if opener else "<-"
    sent = [token for end, tokens in pattern.messages if end == arrow for token in tokens]
    found = {}
    if "s" in own_before or "s" in sent:
        found["secret"] = keys[own + "s"]
    if "e" in own_before or "e" in sent:
        found["ephemeral"] = keys[own + "e"]
    if "s" in other_before:
        found["peer"] = suite.public(keys[other + "s"])
    if "e" in other_before:
        found["peer_ephemeral"] = suite.public(keys[other + "e"])
    if any("psk" in tokens for _, tokens in pattern.messages):
        found["psk"] = list(PSK)
    return found


def end(suite, pattern, opener, **changes):
    given = dict(parts(suite, pattern, opener), prologue=list(PROLOGUE))
    given.update(changes)
    return Handshake(suite, pattern, opener=opener, **given)


def ends(suite, name, **changes):
    """The end that writes the first message, and the other one."""
    pattern = pattern_named(name)
    opener, answerer = end(suite, pattern, True, **changes), end(suite, pattern, False, **changes)
    return (opener, answerer) if opener.writes_next() else (answerer, opener)


def advance(writer, reader, many):
    """Pass many messages on, and return the ends: the one that writes next, if any, first."""
    for _ in range(many):
        reader.read(writer.write([7] * 5))
        writer, reader = reader, writer
    return writer, reader


def changed_at(data, place):
    return data[:place] + [data[place] ^ 1] + data[place + 1:]


def frozen(data):
    return None if data is None else tuple(data)


class Runs(HushCase):
    def run_pattern(self, suite, pattern, payloads):
        """Run a pattern, and compare each step of both ends with the plain run."""
        keys = secret_keys(suite)
        run, split = plain_run(suite, pattern, keys, PROLOGUE, PSK, payloads)
        opener, answerer = end(suite, pattern, True), end(suite, pattern, False)
        known = {True: dict(zip("se", self.given(suite, pattern, True))),
                 False: dict(zip("se", self.given(suite, pattern, False)))}
        for index, ((arrow, tokens), payload) in enumerate(zip(pattern.messages, payloads)):
            by_opener = arrow == "->"
            writer, reader = (opener, answerer) if by_opener else (answerer, opener)
            message, state = run[index]
            self.assertIs(writer.writes_next(), True)
            self.assertIs(reader.writes_next(), False)
            for one in (writer, reader):
                self.assertIs(one.is_done(), False)
                self.assertEqual(one.overhead(), len(message) - len(payload))
                self.assertEqual(one.state()[0], index)
            self.assertEqual(writer.write(payload), message)
            self.assertEqual(reader.read(message), payload)
            for token in ("s", "e"):
                if token in tokens:
                    name = ("o" if by_opener else "a") + token
                    known[not by_opener][token] = suite.public(keys[name])
            for one, is_opener in ((opener, True), (answerer, False)):
                self.assertEqual(one.hash(), list(state[1]))
                self.assertEqual(one.peer(), known[is_opener]["s"])
                self.assertEqual(one.state(), (index + 1, state, frozen(known[is_opener]["s"]),
                                               frozen(known[is_opener]["e"])))
        self.check_end(opener, answerer, split)

    def given(self, suite, pattern, opener):
        found = parts(suite, pattern, opener)
        return found.get("peer"), found.get("peer_ephemeral")

    def check_end(self, opener, answerer, split):
        for one in (opener, answerer):
            self.assertIs(one.is_done(), True)
            self.assertIs(one.writes_next(), False)
            self.assertEqual(one.overhead(), 0)
            state = one.state()
            for function, *arguments in ((one.write, []), (one.read, []), (one.write, None),
                                         (one.read, None), (one.read, [0] * (MOST + 1))):
                with self.assertRaises(OutOfOrder):
                    function(*arguments)
            self.assertEqual(one.state(), state)
            found = one.split()
            self.assertIsInstance(found, tuple)
            self.assertEqual(found, split)
            self.assertIs(one.state()[1][4], True)
            with self.assertRaises(OutOfOrder):
                one.split()
            self.assertEqual(one.hash(), list(state[1][1]))

    def run_named(self, suite, name, size=5):
        pattern = pattern_named(name)
        payloads = [some_bytes(size * k, k) for k in range(len(pattern.messages))]
        self.run_pattern(suite, pattern, payloads)

    def test_all_names(self):
        for suite in SUITES:
            for name in PATTERN_NAMES:
                with self.subTest(suite=suite.name, name=name):
                    self.run_named(suite, name)

    def test_psk_modifiers(self):
        for name in PATTERN_NAMES:
            for place in range(len(pattern_named(name).messages) + 1):
                with self.subTest(name=name, place=place):
                    self.run_named(SMALL, f"{name}psk{place}", 3)

    def test_fallback(self):
        for name in FALLBACKS:
            with self.subTest(name=name):
                self.run_named(SMALL, name + "fallback")
                self.run_named(SMALL, name + "fallback+psk0")
                self.run_named(SMALL, name + "fallback+psk1")

    def test_a_few_with_the_standard_suite(self):
        for name in FEW:
            with self.subTest(name=name):
                self.run_named(STANDARD, name, 40)

    def test_patterns_without_a_name(self):
        for text in ("-> e", "<- e", "-> s", "<- s\n-> e, es\n<- e, ee",
                     "-> e\n<- e\n-> s\n<- s\n-> ee, es, se, ss\n<- psk",
                     "-> e\n<- e\n...\n-> ee, psk", "<- e\n-> e, ee, s, se\n<- s, es, psk",
                     "-> s\n<- e\n-> e, ee, se\n<- psk", "-> psk, e, psk\n<- e, ee, psk\n-> psk"):
            for suite in SUITES:
                pattern = parse_pattern(text)
                self.run_pattern(suite, pattern, [[9] * 3] * len(pattern.messages))
        self.run_pattern(SMALL, EVERYTHING, [[], [5]])

    def test_a_published_example(self):
        pattern = pattern_named("NN")
        prologue = list(b"John Galt")
        opener = Handshake(STANDARD, pattern, opener=True, prologue=prologue, ephemeral=list(
            bytes.fromhex("893e28b9dc6ca8d611ab664754b8ceb7bac5117349a4439a6b0569da977c464a")))
        answerer = Handshake(STANDARD, pattern, opener=False, prologue=prologue, ephemeral=list(
            bytes.fromhex("bbdb4cdbd309f1a1f2e1456967fe288cadd6f712d65dc7b7793d5e63da6b375b")))
        message = opener.write(list(b"Ludwig von Mises"))
        self.assertEqual(bytes(message).hex(), (
            "ca35def5ae56cec33dc2036731ab14896bc4c75dbb07a61f879f8e3afa4c7944"
            "4c756477696720766f6e204d69736573"))
        self.assertEqual(answerer.read(message), list(b"Ludwig von Mises"))
        message = answerer.write(list(b"Murray Rothbard"))
        self.assertEqual(bytes(message).hex(), (
            "95ebc60d2b1fa672c1f46a8aa265ef51bfe38e7ccb39ec5be34069f144808843"
            "a0ff96bdf86b579ef7dbf94e812a7470b903c20a85a87e3a1fe863264ae547"))
        self.assertEqual(opener.read(message), list(b"Murray Rothbard"))

    def test_the_prologue(self):
        for prologue in ((), [], [0], [5] * 1024):
            writer, reader = ends(SMALL, "NN", prologue=prologue)
            advance(writer, reader, 2)
            self.assertEqual(writer.hash(), reader.hash())
        self.assertEqual(ends(SMALL, "NN", prologue=())[0].state(),
                         ends(SMALL, "NN", prologue=[])[0].state())
        pattern = pattern_named("NN")
        ephemeral = parts(SMALL, pattern, True)["ephemeral"]
        self.assertEqual(Handshake(SMALL, pattern, opener=True, ephemeral=ephemeral).state(),
                         ends(SMALL, "NN", prologue=[])[0].state())

    def test_ends_that_differ(self):
        pattern = pattern_named("NNpsk0")
        for changes in ({"prologue": [1, 2]}, {"psk": changed_at(PSK, 31)}):
            writer = end(SMALL, pattern, True)
            reader = end(SMALL, pattern, False, **changes)
            with self.assertRaises(NotAuthentic):
                reader.read(writer.write([]))
        writer = end(SMALL, pattern, True)
        reader = end(SMALL, Pattern("other", pattern.before, pattern.messages), False)
        with self.assertRaises(NotAuthentic):
            reader.read(writer.write([]))


class Constructing(HushCase):
    def assert_refused(self, pattern, opener, **changes):
        with self.assertRaises(Refused):
            end(SMALL, pattern, opener, **changes)

    def test_patterns_that_are_not_valid(self):
        for text in ("-> e, e", "-> e, ee", "-> s\n...\n-> e\n<- e, se", "-> psk"):
            for opener in (True, False):
                with self.assertRaises(Refused):
                    Handshake(SMALL, parse_pattern(text), opener=opener, prologue=[0] * 2000,
                              secret=[1], ephemeral=[1], peer=[1], peer_ephemeral=[1], psk=[1])

    def test_each_needed_part_missing(self):
        for suite in SUITES:
            for opener in (True, False):
                names = ["ephemeral", "peer", "peer_ephemeral", "psk", "secret"]
                self.assertEqual(sorted(parts(suite, EVERYTHING, opener)), names)
                for name in names:
                    with self.assertRaises(Refused):
                        end(suite, EVERYTHING, opener, **{name: None})
                    with self.assertRaises(Refused):
                        end(suite, EVERYTHING, opener, **{name: None, "prologue": [0] * 1025})
                    others = {other: [1] for other in names if other != name}
                    with self.assertRaises(Refused):
                        end(suite, EVERYTHING, opener, **{name: None}, **others)

    def test_needed_parts_of_named_patterns(self):
        for name in PATTERN_NAMES + ("NNpsk0", "XXfallback", "IXfallback+psk1", "NK1fallback"):
            pattern = pattern_named(name)
            for opener in (True, False):
                for part in parts(SMALL, pattern, opener):
                    self.assert_refused(pattern, opener, **{part: None})

    def test_lengths(self):
        for suite in SUITES:
            for opener in (True, False):
                for name in parts(suite, EVERYTHING, opener):
                    size = 32 if name == "psk" else suite.key_size
                    for length in (0, 1, size - 1, size + 1, 2 * size):
                        with self.assertRaises(OutOfRange):
                            end(suite, EVERYTHING, opener, **{name: [1] * length})
                with self.assertRaises(OutOfRange):
                    end(suite, EVERYTHING, opener, prologue=[0] * 1025)

    def test_lengths_come_before_weak_keys(self):
        for suite in SUITES:
            weak = [0] * suite.key_size
            for name in ("secret", "ephemeral", "peer_ephemeral", "psk", "prologue"):
                wrong = [0] * 1025 if name == "prologue" else [0] * (suite.key_size + 1)
                with self.assertRaises(OutOfRange):
                    end(suite, EVERYTHING, True, **{name: wrong}, peer=weak)
            with self.assertRaises(OutOfRange):
                end(suite, EVERYTHING, True, peer=[0], peer_ephemeral=weak)

    def test_weak_keys(self):
        for suite in SUITES:
            weak = [[0] * suite.key_size, [1] + [0] * (suite.key_size - 1), [255] * suite.key_size]
            for key in weak:
                for name in ("peer", "peer_ephemeral"):
                    for opener in (True, False):
                        with self.assertRaises(Malformed):
                            end(suite, EVERYTHING, opener, **{name: key})

    def test_any_secret_key_is_good(self):
        for suite in SUITES:
            for key in ([0] * suite.key_size, [255] * suite.key_size):
                end(suite, EVERYTHING, True, secret=key, ephemeral=key)

    def test_what_is_not_needed_is_ignored(self):
        names = ("secret", "ephemeral", "peer", "peer_ephemeral", "psk")
        for name in PATTERN_NAMES + ("NNpsk0", "XXfallback", "IXfallback+psk1", "NK1fallback"):
            pattern = pattern_named(name)
            for opener in (True, False):
                plain = end(SMALL, pattern, opener)
                needed = parts(SMALL, pattern, opener)
                for junk in ([0] * 16, [1, 2], [], "junk", 7, (3,)):
                    given = {part: junk for part in names if part not in needed}
                    other = end(SMALL, pattern, opener, **given)
                    self.assertEqual(other.state(), plain.state())
                    self.assertEqual(other.peer(), needed.get("peer"))
                    if other.writes_next():
                        self.assertEqual(other.write([1]), end(SMALL, pattern, opener).write([1]))


class Turns(HushCase):
    def test_out_of_turn(self):
        for name in ("XX", "IKpsk2", "XXfallback", "N"):
            pattern = pattern_named(name)
            writer, reader = ends(SMALL, name)
            for _ in pattern.messages:
                for function, *arguments in ((reader.write, []), (reader.write, [0] * (MOST + 1)),
                                             (reader.write, None), (writer.read, []),
                                             (writer.read, [0] * (MOST + 1)), (writer.read, None),
                                             (writer.split,), (reader.split,)):
                    states = (writer.state(), reader.state())
                    with self.assertRaises(OutOfOrder):
                        function(*arguments)
                    self.assertEqual((writer.state(), reader.state()), states)
                writer, reader = advance(writer, reader, 1)

    def test_longest_messages(self):
        for suite, name in ((STANDARD, "NN"), (SMALL, "XX"), (SMALL, "NNpsk0")):
            writer, reader = ends(suite, name)
            while not writer.is_done():
                room = MOST - writer.overhead()
                for size in (room + 1, room + 2, MOST, MOST + 1):
                    states = (writer.state(), reader.state())
                    with self.assertRaises(OutOfRange):
                        writer.write([0] * size)
                    self.assertEqual((writer.state(), reader.state()), states)
                message = writer.write([5] * room)
                self.assertEqual(len(message), MOST)
                with self.assertRaises(Malformed):
                    reader.read(message + [0])
                self.assertEqual(reader.read(message), [5] * room)
                writer, reader = reader, writer
            self.assertEqual(writer.split(), reader.split())

    def test_a_payload_that_is_too_long_uses_no_number(self):
        class CountingSuite(SmallSuite):
            def seal(self, key, number, data, text):
                self.seals = getattr(self, "seals", 0) + 1
                return SmallSuite.seal(self, key, number, data, text)

        suite = CountingSuite()
        writer, _ = ends(suite, "NNpsk0")
        with self.assertRaises(OutOfRange):
            writer.write([0] * MOST)
        self.assertFalse(hasattr(suite, "seals"))


    def test_a_suite_that_fails_in_the_middle_of_a_message(self):
        class FailingSuite(SmallSuite):
            def __init__(self):
                SmallSuite.__init__(self)
                self.fails = False

            def seal(self, key, number, data, text):
                if self.fails:
                    raise ValueError
                return SmallSuite.seal(self, key, number, data, text)

            def open_sealed(self, key, number, data, sealed):
                if self.fails:
                    raise ValueError
                return SmallSuite.open_sealed(self, key, number, data, sealed)

        suite = FailingSuite()
        writer, reader = advance(*ends(suite, "XX"), 1)
        states = (writer.state(), reader.state())
        message = advance(*ends(suite, "XX"), 1)[0].write([1])
        suite.fails = True
        for function, argument in ((writer.write, [1]), (reader.read, message)):
            with self.assertRaises(ValueError):
                function(argument)
            self.assertEqual((writer.state(), reader.state()), states)
        suite.fails = False
        self.assertEqual(writer.write([1]), message)
        self.assertEqual(reader.read(message), [1])


class WrongMessages(HushCase):
    def assert_stays(self, error, reader, message):
        state = reader.state()
        with self.assertRaises(error):
            reader.read(message)
        self.assertEqual(reader.state(), state)

    def test_too_short(self):
        for suite in SUITES:
            for name in ("XX", "IK", "NNpsk0", "X1X1", "XXfallback", "K"):
                writer, reader = ends(suite, name)
                while not writer.is_done():
                    message = writer.write([])
                    self.assertEqual(len(message), reader.overhead())
                    for length in range(0, len(message), 1 if suite == SMALL else 11):
                        self.assert_stays(Malformed, reader, message[:length])
                    if message:
                        self.assert_stays(Malformed, reader, message[:-1])
                    self.assert_stays(Malformed, reader, [0] * (MOST + 1))
                    self.assertEqual(reader.read(message), [])
                    writer, reader = reader, writer
                self.assertEqual(writer.split(), reader.split())

    def test_lengths_come_before_everything_but_the_turn(self):
        weak = [0] * 16
        _, reader = ends(SMALL, "NNpsk0")
        self.assert_stays(Malformed, reader, weak)
        self.assert_stays(Malformed, reader, weak + [0] * MOST)

    def test_a_weak_key_in_the_clear(self):
        for suite in SUITES:
            size = suite.key_size
            for weak in ([0] * size, [1] + [0] * (size - 1), [255] * size):
                for name in ("XX", "NNpsk0", "IN", "XXfallback"):
                    writer, reader = ends(suite, name)
                    message = writer.write([5])
                    self.assert_stays(Malformed, reader, weak + message[size:])
                    self.assert_stays(Malformed, reader, weak + [0] * (len(message) - size))
                    self.assertEqual(reader.read(message), [5])

    def test_a_weak_static_key_in_the_clear(self):
        for suite in SUITES:
            size = suite.key_size
            writer, reader = ends(suite, "IN")
            message = writer.write([5])
            self.assert_stays(Malformed, reader, message[:size] + [0] * size + message[2 * size:])
            self.assertEqual(reader.read(message), [5])

    def sealed_weak_key(self, suite, first, weak):
        """The second message of XX up to a weak static key, and the bytes of the payload."""
        keys = secret_keys(suite)
        transcript = PlainTranscript(suite, "Noise_XX_" + suite.name)
        transcript.data(PROLOGUE)
        transcript.data(first[:suite.key_size])
        transcript.data(first[suite.key_size:])
        public = suite.public(keys["ae"])
        transcript.data(public)
        transcript.key_input(suite.exchange(keys["ae"], suite.public(keys["oe"])))
        return public + transcript.sealed(weak) + [0] * suite.tag_size

    def test_a_weak_key_that_was_sealed(self):
        for suite in SUITES:
            size = suite.key_size
            answerer_secret = secret_keys(suite)["as"]
            for weak in ([0] * size, [1] + [0] * (size - 1), [255] * size):
                writer, reader = ends(suite, "XX")
                first = writer.write([5])
                reader.read(first)
                message = self.sealed_weak_key(suite, first, weak)
                # What is behind the key would not open, but the key comes first.
                self.assert_stays(Malformed, writer, message)
                good = self.sealed_weak_key(suite, first, suite.public(answerer_secret))
                self.assert_stays(NotAuthentic, writer, good)
                self.assert_stays(NotAuthentic, writer, changed_at(message, size))
                true = reader.write([6])
                self.assertEqual(true[:2 * size + suite.tag_size],
                                 good[:2 * size + suite.tag_size])
                self.assertEqual(writer.read(true), [6])

    def test_a_weak_key_before_something_that_does_not_open(self):
        for suite in SUITES:
            writer, reader = ends(suite, "XX")
            writer, reader = advance(writer, reader, 1)
            message = writer.write([6])
            size = suite.key_size
            self.assert_stays(Malformed, reader, [0] * size + changed_at(message, size)[size:])
            self.assert_stays(NotAuthentic, reader, changed_at(message, size))
            self.assertEqual(reader.read(message), [6])

    def test_a_byte_changed_in_each_part(self):
        for suite, name, step in ((STANDARD, "XX", 9), (SMALL, "XX", 1), (SMALL, "IK", 1),
                                  (SMALL, "X1X1", 1), (SMALL, "XXpsk3", 1), (SMALL, "NNpsk0", 1),
                                  (SMALL, "IXfallback", 1)):
            writer, reader = ends(suite, name)
            while not writer.is_done():
                message = writer.write([5, 6])
                if writer.state()[1][2] is not None:
                    # A changed key in the clear may be weak; then it is found even earlier.
                    for place in list(range(0, len(message), step)) + [len(message) - 1]:
                        clear = place < suite.key_size
                        self.assert_stays((NotAuthentic, Malformed) if clear else NotAuthentic,
                                          reader, changed_at(message, place))
                    self.assert_stays(NotAuthentic, reader, message + [0])
                self.assertEqual(reader.read(message), [5, 6])
                writer, reader = reader, writer
            self.assertEqual(writer.split(), reader.split())

    def test_a_change_that_nothing_seals_is_found_later(self):
        for suite in SUITES:
            for name in ("NN", "XX", "IX"):
                for place in (0, -1):
                    writer, reader = ends(suite, name)
                    message = writer.write([5, 6])
                    changed = changed_at(message, place % len(message))
                    if suite.is_weak(changed[:suite.key_size]):
                        continue
                    reader.read(changed)
                    self.assertNotEqual(reader.hash(), writer.hash())
                    self.assert_stays(NotAuthentic, writer, reader.write([]))

    def test_messages_of_another_handshake(self):
        writer, reader = ends(SMALL, "XX")
        other, _ = ends(SMALL, "XX", prologue=[])
        first = writer.write([])
        reader.read(first)
        _, other_reader = ends(SMALL, "XX", prologue=[])
        other_reader.read(other.write([]))
        self.assert_stays(NotAuthentic, writer, other_reader.write([]))
        self.assertEqual(writer.read(reader.write([])), [])


class Lists(HushCase):
    def test_what_the_constructor_is_passed(self):
        for suite in SUITES:
            for opener in (True, False):
                given = parts(suite, EVERYTHING, opener)
                given["prologue"] = list(PROLOGUE)
                made = self.assert_keeps(
                    lambda given: Handshake(suite, EVERYTHING, opener=opener, **given), given)
                expected = end(suite, EVERYTHING, opener)
                for value in given.values():
                    spoil(value)
                self.assertEqual(made.state(), expected.state())
                one, other = end(suite, EVERYTHING, not opener), end(suite, EVERYTHING, not opener)
                if opener:
                    self.assertEqual(made.write([1]), expected.write([1]))
                else:
                    made.read(one.write([1]))
                    expected.read(other.write([1]))
                    self.assertEqual(made.write([1]), expected.write([1]))

    def test_messages_and_payloads(self):
        for name in ("XX", "NNpsk0", "IK"):
            pair, plain = ends(SMALL, name), ends(SMALL, name)
            while not pair[0].is_done():
                payload = [5, 6]
                message = self.assert_keeps(pair[0].write, payload)
                spoil(payload)
                sent = list(message)
                spoil(message)
                self.assertEqual(plain[0].write([5, 6]), sent)
                found = self.assert_keeps(pair[1].read, sent)
                self.assertEqual(found, plain[1].read(list(sent)))
                spoil(found)
                spoil(sent)
                for one, other in zip(pair, plain):
                    self.assertEqual(one.state(), other.state())
                pair, plain = pair[::-1], plain[::-1]
            self.assertEqual(pair[0].split(), plain[1].split())

    def test_what_is_returned_may_be_changed(self):
        writer, reader = advance(*ends(SMALL, "XX"), 3)
        for one in (writer, reader):
            state = one.state()
            self.assert_fresh(one.hash)
            self.assert_fresh(one.peer)
            self.assertEqual(one.state(), state)
        spoil(writer.split())
        reader.split()
        self.assertEqual(writer.state()[1], reader.state()[1])

    def test_the_pattern_does_not_change(self):
        pattern = pattern_named("XXpsk3")
        fields = (pattern.name, pattern.before, pattern.messages)
        advance(end(SMALL, pattern, True), end(SMALL, pattern, False), 3)
        self.assertEqual((pattern.name, pattern.before, pattern.messages), fields)


if __name__ == "__main__":
    unittest.main()
