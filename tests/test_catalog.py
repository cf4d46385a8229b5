import unittest

from hushlink.catalog import PATTERN_NAMES, add_psk, fall_back, pattern_named
from hushlink.errors import Malformed, Refused
from hushlink.pattern import Pattern, parse_pattern, write_pattern
from plain_rules import broken_rules
from support import HushCase

NAMES = ("N K X NN NK NX KN KK KX XN XK XX IN IK IX NK1 NX1 X1N X1K XK1 X1K1 X1X XX1 X1X1 K1N K1K "
         "KK1 K1K1 K1X KX1 K1X1 I1N I1K IK1 I1K1 I1X IX1 I1X1").split()

# Written out by hand, the lines joined by a slash.
WRITTEN = {
    "N": "<- s/.../-> e, es",
    "K": "-> s/<- s/.../-> e, es, ss",
    "X": "<- s/.../-> e, es, s, ss",
    "NN": "-> e/<- e, ee",
    "NK": "<- s/.../-> e, es/<- e, ee",
    "NX": "-> e/<- e, ee, s, es",
    "KN": "-> s/.../-> e/<- e, ee, se",
    "KK": "-> s/<- s/.../-> e, es, ss/<- e, ee, se",
    "KX": "-> s/.../-> e/<- e, ee, se, s, es",
    "XN": "-> e/<- e, ee/-> s, se",
    "XK": "<- s/.../-> e, es/<- e, ee/-> s, se",
    "XX": "-> e/<- e, ee, s, es/-> s, se",
    "IN": "-> e, s/<- e, ee, se",
    "IK": "<- s/.../-> e, es, s, ss/<- e, ee, se",
    "IX": "-> e, s/<- e, ee, se, s, es",
    "NK1": "<- s/.../-> e/<- e, ee, es",
    "NX1": "-> e/<- e, ee, s/-> es",
    "X1N": "-> e/<- e, ee/-> s/<- se",
    "X1K": "<- s/.../-> e, es/<- e, ee/-> s/<- se",
    "XK1": "<- s/.../-> e/<- e, ee, es/-> s, se",
    "X1K1": "<- s/.../-> e/<- e, ee, es/-> s/<- se",
    "X1X": "-> e/<- e, ee, s, es/-> s/<- se",
    "XX1": "-> e/<- e, ee, s/-> es, s, se",
    "X1X1": "-> e/<- e, ee, s/-> es, s/<- se",
    "K1N": "-> s/.../-> e/<- e, ee/-> se",
    "K1K": "-> s/<- s/.../-> e, es/<- e, ee/-> se",
    "KK1": "-> s/<- s/.../-> e/<- e, ee, se, es",
    "K1K1": "-> s/<- s/.../-> e/<- e, ee, es/-> se",
    "K1X": "-> s/.../-> e/<- e, ee, s, es/-> se",
    "KX1": "-> s/.../-> e/<- e, ee, se, s/-> es",
    "K1X1": "-> s/.../-> e/<- e, ee, s/-> se, es",
    "I1N": "-> e, s/<- e, ee/-> se",
    "I1K": "<- s/.../-> e, es, s/<- e, ee/-> se",
    "IK1": "<- s/.../-> e, s/<- e, ee, se, es",
    "I1K1": "<- s/.../-> e, s/<- e, ee, es/-> se",
    "I1X": "-> e, s/<- e, ee, s, es/-> se",
    "IX1": "-> e, s/<- e, ee, se, s/-> es",
    "I1X1": "-> e, s/<- e, ee, s/-> se, es",
}

MODIFIED = {
    "NNpsk0": "-> psk, e/<- e, ee",
    "NNpsk1": "-> e, psk/<- e, ee",
    "NNpsk2": "-> e/<- e, ee, psk",
    "NNpsk0+psk2": "-> psk, e/<- e, ee, psk",
    "NNpsk0+psk1": "-> psk, e, psk/<- e, ee",
    "NNpsk0+psk1+psk2": "-> psk, e, psk/<- e, ee, psk",
    "Npsk0": "<- s/.../-> psk, e, es",
    "Xpsk1": "<- s/.../-> e, es, s, ss, psk",
    "XXpsk3": "-> e/<- e, ee, s, es/-> s, se, psk",
    "X1Npsk4": "-> e/<- e, ee/-> s/<- se, psk",
    "IKpsk0+psk1": "<- s/.../-> psk, e, es, s, ss, psk/<- e, ee, se",
    "NNfallback": "-> e/.../<- e, ee",
    "XXfallback": "-> e/.../<- e, ee, s, es/-> s, se",
    "XXfallback+psk1": "-> e/.../<- e, ee, s, es, psk/-> s, se",
    "XXfallback+psk0": "-> e/.../<- psk, e, ee, s, es/-> s, se",
    "XXfallback+psk0+psk1+psk2": "-> e/.../<- psk, e, ee, s, es, psk/-> s, se, psk",
    "IXfallback": "-> e, s/.../<- e, ee, se, s, es",
    "I1Nfallback+psk2": "-> e, s/.../<- e, ee/-> se, psk",
    "NK1fallback": "-> e/<- s/.../<- e, ee, es",
    "X1X1fallback+psk3": "-> e/.../<- e, ee, s/-> es, s/<- se, psk",
}


def written(text):
    return text.replace("/", "\n")


def fields(pattern):
    return pattern.name, pattern.before, pattern.messages


class NamedPatterns(HushCase):
    def test_the_names_in_their_order(self):
        self.assertIsInstance(PATTERN_NAMES, tuple)
        self.assertEqual(list(PATTERN_NAMES), NAMES)
        self.assertEqual(len(set(PATTERN_NAMES)), 38)
        self.assertEqual(sorted(WRITTEN), sorted(NAMES))

    def test_each_name(self):
        for name, text in WRITTEN.items():
            pattern = pattern_named(name)
            self.assertIsInstance(pattern, Pattern)
            self.assertEqual(pattern.name, name)
            self.assertEqual(write_pattern(pattern), written(text), name)
            self.assertEqual(fields(pattern)[1:], fields(parse_pattern(written(text)))[1:])

    def test_each_is_valid(self):
        for name in NAMES:
            self.assertEqual(broken_rules(pattern_named(name)), set(), name)

    def test_modifiers(self):
        for name, text in MODIFIED.items():
            pattern = pattern_named(name)
            self.assertEqual(pattern.name, name)
            self.assertEqual(write_pattern(pattern), written(text), name)

    def test_all_names_with_all_single_modifiers(self):
        for name in NAMES:
            bare = pattern_named(name)
            for place in range(10):
                if place <= len(bare.messages):
                    pattern = pattern_named(f"{name}psk{place}")
                    self.assertEqual(fields(pattern)[1:], fields(add_psk(bare, place))[1:])
                else:
                    self.assert_refused(f"{name}psk{place}")
            first = bare.messages[0][1]
            possible = (not bare.before[0] and first in (("e",), ("e", "s"))
                        and len(bare.messages) > 1)
            if possible:
                pattern = pattern_named(name + "fallback")
                self.assertEqual(fields(pattern)[1:],
                                 ((first, bare.before[1]), bare.messages[1:]))
            else:
                self.assert_refused(name + "fallback")

    def test_what_is_returned_is_new_each_time(self):
        pattern = pattern_named("XX")
        pattern.name = "other"
        pattern.messages = ()
        self.assertEqual(write_pattern(pattern_named("XX")), written(WRITTEN["XX"]))

    def assert_refused(self, name):
        with self.assertRaises(Refused, msg=name):
            pattern_named(name)

    def assert_malformed(self, name):
        with self.assertRaises(Malformed, msg=name):
            pattern_named(name)

    def test_unknown_names(self):
        for name in ("", " ", "n", "xx", "Nn", "I", "NI", "II", "XI", "A", "NNN", "XXX", "N1", "X1",
                     "K1", "1", "11", "NN1", "N1N", "N1K", "N1X", "KN1", "XN1", "IN1", "X11X", "X2X",
                     "XX11", "1XX", "XX ", " XX", "XX\n", "X X", "Noise_XX", "I1", "IK11"):
            self.assert_malformed(name)

    def test_unknown_modifiers(self):
        for name in ("NNpsk", "NNpsk10", "NNpsk00", "NNpsk01", "NNpsk-1", "NNpsk+1", "NNPSK0",
                     "NNPsk0", "NNpsk 0", "NNpskA", "NNfall", "NNFallback", "NNFALLBACK",
                     "NNfallback0", "NNxyz", "NN psk0", "NNpsk0 ", "NN+", "NN+psk0", "NNpsk0+",
                     "NNpsk0psk1", "NNpsk0++psk1", "NNpsk0 psk1", "NNpsk0,psk1", "NNpsk0+ psk1",
                     "NNpsk0+PSK1", "psk0", "fallback", "+", "NNfallbackpsk0", "NNfallback+",
                     "NNpsk\u0661", "NNps", "NNp", "NNfallback+x"):
            self.assert_malformed(name)

    def test_modifiers_in_the_wrong_order_or_twice(self):
        for name in ("NNpsk1+psk0", "NNpsk2+psk1", "NNpsk0+psk2+psk1", "NNpsk0+psk0", "NNpsk1+psk1",
                     "NNpsk0+psk1+psk1", "XXpsk3+psk3", "NNpsk0+fallback", "NNfallback+fallback",
                     "NNfallback+psk1+psk0", "NNfallback+psk0+fallback",
                     "NNfallback+psk1+psk1"):
            self.assert_malformed(name)

    def test_messages_that_are_not_there(self):
        for name in ("NNpsk3", "NNpsk9", "Npsk2", "Kpsk2", "XXpsk4", "X1Npsk5", "NNpsk0+psk3",
                     "NNfallback+psk2", "XXfallback+psk3"):
            self.assert_refused(name)

    def test_fallback_that_is_not_possible(self):
        for name in ("Nfallback", "Kfallback", "Xfallback", "NKfallback", "KNfallback", "KKfallback",
                     "XKfallback", "IKfallback", "K1Nfallback", "X1Kfallback", "I1Kfallback",
                     "NKfallback+psk0"):
            self.assert_refused(name)

    def test_the_form_is_checked_before_the_rest(self):
        for name in ("NNpsk9+psk8", "NKfallback+psk", "NNpsk3+", "Nfallback+fallback", "NNpsk8+psk8"):
            self.assert_malformed(name)


class Additions(HushCase):
    def check(self, text, place, expected):
        pattern = parse_pattern(text)
        pattern.name = "some name"
        before = fields(pattern)
        found = add_psk(pattern, place)
        self.assertIsInstance(found, Pattern)
        self.assertEqual(found.name, "some name")
        self.assertEqual(write_pattern(found), expected)
        self.assertEqual(fields(pattern), before)

    def assert_refused(self, text, place):
        pattern = parse_pattern(text)
        before = fields(pattern)
        with self.assertRaises(Refused):
            add_psk(pattern, place)
        self.assertEqual(fields(pattern), before)

    def test_each_place(self):
        messages = ["-> e", "<- ee"] * 6
        for place in range(10):
            expected = list(messages)
            if place == 0:
                expected[0] = "-> psk, e"
            else:
                expected[place - 1] += ", psk"
            self.check("\n".join(messages), place, "\n".join(expected))

    def test_pre_messages_stay(self):
        self.check("-> e\n<- s\n...\n<- e, ee", 0, "-> e\n<- s\n...\n<- psk, e, ee")
        self.check("-> e\n<- s\n...\n<- e, ee", 1, "-> e\n<- s\n...\n<- e, ee, psk")

    def test_messages_that_are_not_there(self):
        for many in range(1, 9):
            text = "\n".join((["-> e", "<- e"] * 6)[:many])
            for place in range(many + 1, 10):
                self.assert_refused(text, place)
        self.assert_refused("-> e", 2)
        self.assert_refused("-> e\n<- e, ee", 9)

    def test_messages_without_room(self):
        full = "-> " + ", ".join(["e"] * 8)
        seven = "<- " + ", ".join(["e"] * 7)
        self.assert_refused(full, 0)
        self.assert_refused(full, 1)
        self.assert_refused(f"{seven}\n{full}", 2)
        self.check(f"{full}\n{seven}", 2, f"{full}\n{seven}, psk")
        self.check(f"{seven}\n{full}", 0, f"<- psk, {', '.join(['e'] * 7)}\n{full}")

    def test_rules_are_not_checked(self):
        self.check("-> e, psk", 1, "-> e, psk, psk")
        self.check("-> s", 0, "-> psk, s")
        self.check("-> ee, ee", 1, "-> ee, ee, psk")


class Fallbacks(HushCase):
    def check(self, text, expected):
        pattern = parse_pattern(text)
        pattern.name = "some name"
        before = fields(pattern)
        found = fall_back(pattern)
        self.assertIsInstance(found, Pattern)
        self.assertEqual(found.name, "some name")
        self.assertEqual(write_pattern(found), expected)
        self.assertEqual(fields(pattern), before)

    def test_each_kind_of_first_message(self):
        for tokens in ("e", "s", "e, s"):
            self.check(f"-> {tokens}\n<- e, ee", f"-> {tokens}\n...\n<- e, ee")
            self.check(f"<- s\n...\n-> {tokens}\n<- e, ee\n-> es",
                       f"-> {tokens}\n<- s\n...\n<- e, ee\n-> es")
        self.check("<- e, s\n...\n-> e\n<- ee", "-> e\n<- e, s\n...\n<- ee")

    def test_not_possible(self):
        for text in ("-> e", "-> s", "-> e, s", "<- e\n-> e, ee", "-> e, es\n<- e", "-> s, e\n<- e",
                     "-> e, e\n<- e", "-> s, s\n<- e", "-> ee\n<- e", "-> psk\n<- e",
                     "-> e, psk\n<- e", "-> psk, e\n<- e", "-> e, s, ss\n<- e", "-> e, s, e\n<- e",
                     "-> s\n...\n-> e\n<- e", "-> e\n...\n-> s\n<- e", "-> e, s\n<- s\n...\n-> e\n<- e"):
            pattern = parse_pattern(text)
            before = fields(pattern)
            with self.assertRaises(Refused, msg=text):
                fall_back(pattern)
            self.assertEqual(fields(pattern), before)

    def test_rules_are_not_checked(self):
        self.check("-> s\n<- se", "-> s\n...\n<- se")
        self.check("-> e\n<- e, ee\n-> e", "-> e\n...\n<- e, ee\n-> e")


if __name__ == "__main__":
    unittest.main()
