import itertools
import unittest

from hushlink.catalog import PATTERN_NAMES, pattern_named
from hushlink.grades import can_compute, can_forge, grades, is_open
from hushlink.pattern import parse_pattern
from plain_rules import SHARED, plain_forge, plain_grades, plain_open
from support import HushCase

KEYS = ("oe", "os", "ae", "as")
KEY_LISTS = [list(keys) for many in range(5) for keys in itertools.combinations(KEYS, many)]
NAMES = PATTERN_NAMES + (
    "NNpsk0", "NNpsk2", "NKpsk0+psk2", "XXpsk3", "IKpsk1", "Npsk0", "Kpsk1", "Xpsk1", "NNfallback",
    "XXfallback", "IXfallback", "XXfallback+psk1", "NK1fallback", "X1X1fallback+psk3")

# Worked out by hand from points 90 to 93.
WORKED_OUT = {
    "NN": [(0, 0), (0, 1), (0, 1), (0, 1)],
    "NK": [(0, 2), (2, 1), (0, 5), (2, 1)],
    "NX": [(0, 0), (2, 1), (0, 5), (2, 1)],
    "KN": [(0, 0), (0, 3), (2, 1), (0, 5)],
    "XX": [(0, 0), (2, 1), (2, 5), (2, 5), (2, 5)],
    "IK": [(1, 2), (2, 4), (2, 5), (2, 5)],
    "KK": [(1, 2), (2, 4), (2, 5), (2, 5)],
    "IN": [(0, 0), (0, 3), (2, 1), (0, 5)],
    "XX1": [(0, 0), (0, 1), (2, 3), (2, 3), (2, 5)],
    "X1N": [(0, 0), (0, 1), (0, 1), (0, 3), (2, 1), (0, 5)],
    "N": [(0, 2), (0, 2)],
    "K": [(1, 2), (1, 2)],
    "X": [(1, 2), (1, 2)],
    "NNpsk0": [(0, 0), (0, 1), (0, 1), (0, 1)],
    "NNpsk0+psk2": [(0, 0), (0, 1), (0, 1), (0, 1)],
    "IKpsk2": [(1, 2), (2, 4), (2, 5), (2, 5)],
    "Npsk0": [(0, 2), (0, 2)],
    "NNfallback": [(0, 1), (0, 1)],
    "XXfallback": [(2, 1), (2, 5), (2, 5), (2, 5)],
    "IXfallback": [(2, 3), (2, 3)],
    "XXfallback+psk1": [(2, 1), (2, 5), (2, 5), (2, 5)],
}


class Computing(HushCase):
    def test_each_token_with_each_key(self):
        names = {"ee": ("oe", "ae"), "es": ("oe", "as"), "se": ("os", "ae"), "ss": ("os", "as")}
        for token in SHARED:
            for key in KEYS:
                self.assertIs(can_compute(token, [key]), key in names[token], (token, key))

    def test_several_keys_and_none(self):
        for token in SHARED:
            self.assertIs(can_compute(token, []), False)
            self.assertIs(can_compute(token, list(KEYS)), True)
            self.assertIs(can_compute(token, ["o" + token[0], "a" + token[1]]), True)
        self.assertIs(can_compute("ee", ["os", "as"]), False)
        self.assertIs(can_compute("ss", ["oe", "ae"]), False)
        self.assertIs(can_compute("es", ["os", "ae"]), False)
        self.assertIs(can_compute("se", ["oe", "as"]), False)

    def test_can_compute_keeps_its_arguments(self):
        self.assert_keeps(can_compute, "ee", ["os", "as"])


class Listening(HushCase):
    def test_written_out(self):
        pattern = pattern_named("XX")
        self.assertIs(is_open(pattern, 0, []), True)
        self.assertIs(is_open(pattern, 1, []), False)
        self.assertIs(is_open(pattern, 1, ["oe"]), True)
        self.assertIs(is_open(pattern, 1, ["ae"]), False)
        self.assertIs(is_open(pattern, 1, ["ae", "as"]), True)
        self.assertIs(is_open(pattern, 2, ["oe"]), False)
        self.assertIs(is_open(pattern, 2, ["oe", "os"]), True)
        self.assertIs(is_open(pattern, 2, ["oe", "ae"]), True)

    def test_without_tokens_everybody_can_read(self):
        for text in ("-> e", "-> psk, e", "-> e, s, psk"):
            self.assertIs(is_open(parse_pattern(text), 0, []), True)

    def test_named_patterns(self):
        for name in NAMES:
            pattern = pattern_named(name)
            for index in range(len(pattern.messages)):
                for keys in KEY_LISTS:
                    self.assertIs(is_open(pattern, index, keys), plain_open(pattern, index, keys))

    def test_indexes_outside(self):
        for name in ("N", "NN", "XX", "NNfallback"):
            pattern = pattern_named(name)
            many = len(pattern.messages)
            for index in (-many, -1, many, many + 1):
                self.assert_out_of_range(is_open, pattern, index, [])
                self.assert_out_of_range(can_forge, pattern, index, [])

    def test_is_open_keeps_its_arguments(self):
        keys = ["oe", "as"]
        pattern = pattern_named("XX")
        is_open(pattern, 1, keys)
        self.assertEqual(keys, ["oe", "as"])
        self.assertEqual(pattern.messages, pattern_named("XX").messages)


class Forging(HushCase):
    def test_written_out(self):
        pattern = pattern_named("IK")
        self.assertIs(can_forge(pattern, 0, []), False)
        self.assertIs(can_forge(pattern, 0, ["as"]), True)
        self.assertIs(can_forge(pattern, 0, ["os"]), True)
        self.assertIs(can_forge(pattern, 0, ["ae"]), False)
        self.assertIs(can_forge(pattern, 1, []), False)
        self.assertIs(can_forge(pattern, 1, ["os"]), False)
        self.assertIs(can_forge(pattern, 1, ["as"]), True)
        pattern = pattern_named("NN")
        self.assertIs(can_forge(pattern, 0, []), True)
        self.assertIs(can_forge(pattern, 1, []), True)

    def test_an_ephemeral_key_of_a_pre_message_is_the_forgers_own(self):
        pattern = pattern_named("XXfallback")
        self.assertIs(can_forge(pattern, 0, []), False)
        self.assertIs(can_forge(pattern, 0, ["oe"]), True)
        self.assertIs(can_forge(pattern, 1, []), False)
        self.assertIs(can_forge(pattern, 1, ["os"]), True)
        self.assertIs(can_forge(parse_pattern("-> e\n<- s\n...\n-> es"), 0, []), True)

    def test_named_patterns(self):
        for name in NAMES:
            pattern = pattern_named(name)
            for index, (end, _) in enumerate(pattern.messages):
                for keys in KEY_LISTS:
                    self.assertIs(can_forge(pattern, index, keys),
                                  plain_forge(pattern, index, keys, end))

    def test_can_forge_keeps_its_arguments(self):
        keys = ["oe", "as"]
        pattern = pattern_named("XX")
        can_forge(pattern, 1, keys)
        can_forge(pattern, 2, keys)
        self.assertEqual(keys, ["oe", "as"])
        self.assertEqual(pattern.messages, pattern_named("XX").messages)


class Grades(HushCase):
    def test_example(self):
        self.assertEqual(grades(parse_pattern("<- s\n...\n-> e, es, psk")), [(0, 2), (0, 2)])

    def test_worked_out(self):
        for name, expected in WORKED_OUT.items():
            self.assertEqual(grades(pattern_named(name)), expected, name)

    def test_named_patterns(self):
        for name in NAMES:
            pattern = pattern_named(name)
            self.assertEqual(grades(pattern), plain_grades(pattern), name)

    def test_one_message_of_the_answerer(self):
        self.assertEqual(grades(parse_pattern("-> s\n...\n<- e, se")), [(0, 2), (0, 2)])
        self.assertEqual(grades(parse_pattern("-> e, s\n<- s\n...\n<- e, ee, se, es")),
                         [(2, 3), (2, 3)])

    def test_a_message_without_a_message_before(self):
        # The answerer has received nothing when it sends the first message.
        self.assertEqual(grades(pattern_named("IXfallback"))[0], (2, 3))

    def test_forged_with_the_static_key_of_the_receiver(self):
        # The opener is the receiver of the first message here.
        self.assertEqual(grades(parse_pattern("-> s\n<- s\n...\n<- e, se, ss\n-> e, ee, es")),
                         [(1, 2), (2, 4), (2, 4), (2, 5)])

    def test_other_patterns(self):
        for text in ("-> e", "<- e", "-> s", "-> e\n<- e", "-> s\n...\n-> e\n<- e, se",
                     "-> e\n<- e, ee\n-> s\n<- se\n-> psk\n<- s\n-> es", "<- e\n-> e, ee, s, se",
                     "-> s\n<- s\n...\n-> e, ss\n<- e, ee", "-> s\n<- s\n...\n<- e, ss\n-> e, ee"):
            pattern = parse_pattern(text)
            self.assertEqual(grades(pattern), plain_grades(pattern), text)

    def test_grades_keeps_its_argument(self):
        pattern = pattern_named("XX")
        found = grades(pattern)
        found.append("spoiled")
        found[0] = "spoiled"
        self.assertEqual(grades(pattern), WORKED_OUT["XX"])
        self.assertEqual(pattern.messages, pattern_named("XX").messages)


if __name__ == "__main__":
    unittest.main()
