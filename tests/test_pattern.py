import unittest

from hushlink.errors import Malformed
from hushlink.pattern import Pattern, parse_pattern, write_pattern
from plain_rules import broken_rules
from support import HushCase

TOKENS = ("e", "s", "ee", "es", "se", "ss", "psk")


class Patterns(HushCase):
    def test_fields(self):
        before = ((), ("s",))
        messages = (("->", ("e", "es")), ("<-", ("e", "ee")))
        pattern = Pattern("any name", before, messages)
        self.assertEqual(pattern.name, "any name")
        self.assertEqual(pattern.before, before)
        self.assertEqual(pattern.messages, messages)

    def test_the_name_is_not_checked(self):
        for name in ("", "-", "\n", "NK" * 100):
            self.assertEqual(Pattern(name, ((), ()), (("->", ("e",)),)).name, name)


class Parsing(HushCase):
    def check(self, text, before, messages):
        pattern = self.assert_keeps(parse_pattern, text)
        self.assertIsInstance(pattern, Pattern)
        self.assertEqual(pattern.name, "")
        self.assertEqual(pattern.before, before)
        self.assertEqual(pattern.messages, messages)
        self.assertEqual(write_pattern(pattern), text)

    def assert_malformed(self, text):
        with self.assertRaises(Malformed, msg=repr(text)):
            parse_pattern(text)

    def test_example(self):
        self.assertEqual(parse_pattern("<- s\n...\n-> e, es\n<- e, ee").before, ((), ("s",)))

    def test_each_kind_of_pre_message(self):
        message = (("->", ("e", "ee")),)
        self.check("-> e, ee", ((), ()), message)
        kinds = (("e",), ("s",), ("e", "s"))
        for one in kinds:
            written = ", ".join(one)
            self.check(f"-> {written}\n...\n-> e, ee", (one, ()), message)
            self.check(f"<- {written}\n...\n-> e, ee", ((), one), message)
            for other in kinds:
                self.check(f"-> {written}\n<- {', '.join(other)}\n...\n-> e, ee", (one, other),
                           message)

    def test_one_message_and_twelve(self):
        for first, second in (("->", "<-"), ("<-", "->")):
            for many in range(1, 13):
                arrows = [first, second] * 6
                messages = tuple((arrow, ("e",)) for arrow in arrows[:many])
                self.check("\n".join(arrow + " e" for arrow in arrows[:many]), ((), ()), messages)

    def test_one_token_and_eight(self):
        for token in TOKENS:
            self.check("-> " + token, ((), ()), (("->", (token,)),))
            self.check("<- " + token, ((), ()), (("<-", (token,)),))
        for many in range(1, 9):
            tokens = (TOKENS + ("e",))[:many]
            self.check("-> " + ", ".join(tokens), ((), ()), (("->", tokens),))

    def test_patterns_that_break_rules(self):
        for text in ("-> e, e", "-> ee", "-> e\n<- e, ee, ee", "-> s\n...\n-> e\n<- e, se",
                     "-> e, psk, s", "-> psk", "-> psk, psk, psk", "-> e\n...\n-> e"):
            pattern = parse_pattern(text)
            self.assertTrue(broken_rules(pattern))
            self.assertEqual(write_pattern(pattern), text)

    def test_line_ends(self):
        for text in ("", "\n", "-> e\n", "\n-> e", "-> e\n\n<- e", "-> e\n<- e\n", "-> e\r\n<- e",
                     "-> e\r", "-> s\n\n...\n-> e", "-> s\n...\n\n-> e", "-> s\n...\n-> e\n"):
            self.assert_malformed(text)

    def test_spaces_and_commas(self):
        for text in ("->  e", "->e", " -> e", "-> e ", "->\te", "-> e,  ee", "-> e,ee", "-> e ,ee",
                     "-> e , ee", "-> e ee", "-> e,", "-> e, ", "-> , e", "->", "-> ", "-> e,, ee",
                     "- > e", "-> e, ee,", "-> e;ee", "-> e. ee"):
            self.assert_malformed(text)

    def test_unknown_tokens_and_arrows(self):
        for text in ("-> x", "-> E", "-> S", "-> eE", "-> Psk", "-> PSK", "-> psk0", "-> eee",
                     "-> sse", "-> ps", "-> e, x", "-> e, EE", "> e", "- e", "=> e", "e", "-< e",
                     "<-> e", ">- e", "-> ...", "-> e\n<- e, ee, x"):
            self.assert_malformed(text)

    def test_dots(self):
        for text in ("...", "...\n-> e", "-> s\n...", "-> s\n....\n-> e", "-> s\n..\n-> e",
                     "-> s\n ...\n-> e", "-> s\n... \n-> e", "-> s\n...\n...\n-> e",
                     "...\n...\n-> e", "-> s\n...\n-> e\n...\n<- e", "-> e\n<- e\n..."):
            self.assert_malformed(text)

    def test_pre_messages_in_the_wrong_order_or_twice(self):
        for lines in ("<- s\n-> s", "-> s\n-> s", "<- s\n<- s", "-> e\n-> s", "-> s\n<- s\n-> e",
                      "-> s\n<- s\n<- s", "<- s\n-> s\n<- s"):
            self.assert_malformed(lines + "\n...\n-> e")

    def test_other_tokens_in_pre_messages(self):
        for tokens in ("s, e", "e, e", "s, s", "e, s, e", "e, s, s", "ee", "es", "se", "ss", "psk",
                       "e, ee", "e, s, psk", "psk, e"):
            for arrow in ("->", "<-"):
                self.assert_malformed(f"{arrow} {tokens}\n...\n-> e")

    def test_too_many_messages_and_tokens(self):
        self.assert_malformed("\n".join(["-> e", "<- e"] * 6 + ["-> e"]))
        self.assert_malformed("\n".join(["-> e", "<- e"] * 7))
        self.assert_malformed("-> " + ", ".join(["e"] * 9))
        self.assert_malformed("-> e\n<- " + ", ".join(["psk"] * 9))

    def test_two_messages_of_one_sender_in_a_row(self):
        for text in ("-> e\n-> e", "<- e\n<- e", "-> e\n<- e\n<- s", "-> e\n<- e\n-> s\n-> e"):
            self.assert_malformed(text)


class Writing(HushCase):
    def test_written_out(self):
        pattern = Pattern("any", (("e", "s"), ("s",)), (("<-", ("e", "ee", "psk")), ("->", ("se",))))
        self.assertEqual(write_pattern(pattern), "-> e, s\n<- s\n...\n<- e, ee, psk\n-> se")
        pattern = Pattern("", ((), ()), (("->", ("e",)),))
        self.assertEqual(write_pattern(pattern), "-> e")

    def test_write_pattern_keeps_its_argument(self):
        pattern = parse_pattern("<- s\n...\n-> e, es\n<- e, ee")
        fields = (pattern.name, pattern.before, pattern.messages)
        write_pattern(pattern)
        self.assertEqual((pattern.name, pattern.before, pattern.messages), fields)


if __name__ == "__main__":
    unittest.main()
