import random
import unittest

from hushlink.pattern import Pattern, parse_pattern
from hushlink.rules import broken_rule, needs_peer, needs_secret, sends_secret, uses_psk
from plain_rules import broken_rules
from support import HushCase

VALID = (
    "-> e", "<- e", "-> e\n<- e, ee", "<- e\n-> e, ee", "-> s", "-> e, s\n<- e, ee, se",
    "<- s\n...\n-> e, es", "-> e\n<- e, ee, s, es\n-> s, se",
    # With one message, only its sender sends transport payloads.
    "-> s\n<- s\n...\n-> e, es, ss", "-> s\n<- s\n...\n<- e, se, ss", "-> s\n...\n<- e, se",
    "-> psk, e", "-> e, psk", "<- psk, e", "-> psk, e, psk",
    "-> psk, e, psk\n<- e, ee, psk\n-> psk", "-> e\n<- e, ee\n-> psk", "-> e\n...\n-> psk",
    "-> e\n...\n<- e, ee, psk", "-> e\n<- e\n...\n-> ee, psk",
)

# For each rule, patterns that break it and no other.
ALONE = {
    1: ("-> e, e", "-> e\n<- e, ee\n-> e", "-> e\n...\n-> e\n<- e, ee", "-> s\n...\n-> e, s",
        "-> e\n<- e, ee, s, s", "<- s\n...\n-> e\n<- e, ee, s", "-> e, s\n...\n<- e\n-> s",
        "-> s\n<- s\n-> s"),
    2: ("-> e\n<- e, ee\n-> ee", "-> e\n<- e, ee, ee", "<- s\n...\n-> e, es, es",
        "-> s\n...\n-> e\n<- e, ee, se, se", "-> s\n<- s\n...\n-> e, es, ss, ss"),
    3: ("-> e, ee\n<- e", "-> ee", "-> e, es\n<- e, ee, s", "-> e\n<- e, ee, se\n-> s",
        "-> ee, e\n<- e", "<- e\n-> ee, e", "-> s\n...\n-> e\n<- ee, se, e", "<- e\n...\n-> ee, e",
        "-> e\n<- e, ee, es, s", "<- s\n...\n-> es, e"),
    4: ("-> s\n...\n-> e\n<- e, se", "<- s\n...\n-> e, es\n<- e", "-> s\n<- s\n...\n-> e, ss",
        "-> s\n<- s\n...\n-> e, es, ss\n<- e, ee", "-> s\n<- s\n...\n-> e\n<- e, ee, se, ss",
        "-> s\n<- s\n...\n<- e, ss", "<- s\n...\n-> e, es\n<- e\n-> ee",
        "-> s\n...\n-> e\n<- e, se\n-> psk", "<- s\n...\n<- e\n-> e, es"),
    5: ("-> e, psk, s\n<- e, ee, se", "-> e\n<- psk, e, ee", "-> e, psk, psk",
        "-> e\n<- e, psk, ee\n-> psk", "-> psk, e, psk, s", "-> psk, psk, e",
        "-> e\n<- e, ee\n-> psk, psk", "-> e\n...\n<- e, psk, ee"),
    6: ("-> psk", "-> psk, s", "-> s, psk", "-> e\n<- psk", "-> e, psk\n<- s", "-> psk, s, e",
        "-> psk, e\n<- s", "-> e\n<- s\n-> psk", "<- e\n-> s\n<- psk", "-> s\n<- e, psk",
        "-> e\n<- psk\n-> psk", "-> psk, psk"),
}

# For each pair of rules, a pattern that breaks both.
TOGETHER = {
    (1, 2): "-> e\n<- e, ee\n-> e, ee", (1, 3): "-> e, e, ee\n<- e",
    (1, 4): "-> s\n...\n-> e, e\n<- e, se", (1, 5): "-> e, psk, e", (1, 6): "-> s, s, psk",
    (2, 3): "-> e, ee\n<- e, ee", (2, 4): "-> s\n...\n-> e\n<- e, se, se",
    (2, 5): "-> e\n<- e, ee, psk, ee", (2, 6): "-> s\n...\n<- e, se, psk\n-> se",
    (3, 4): "-> e\n<- e, se", (3, 5): "-> e, psk, ee\n<- e", (3, 6): "-> ee, psk",
    (4, 5): "-> s\n...\n-> e\n<- psk, e, se", (4, 6): "-> s\n<- s\n...\n-> ss, psk",
    (5, 6): "-> s, psk, psk",
}


def random_pattern(source):
    """A pattern that point 82 allows, with some rules broken or none."""
    kinds = ((), (), ("e",), ("s",), ("e", "s"))
    tokens = ("e", "s", "ee", "es", "se", "ss", "psk")
    arrows = source.choice((("->", "<-"), ("<-", "->")))
    messages = []
    for number in range(source.randint(1, 4)):
        many = source.randint(1, 4)
        messages.append((arrows[number % 2], tuple(source.choice(tokens) for _ in range(many))))
    return Pattern("", (source.choice(kinds), source.choice(kinds)), tuple(messages))


class Rules(HushCase):
    def test_example(self):
        self.assertEqual(broken_rule(parse_pattern("-> s\n...\n-> e\n<- e, se")), 4)

    def test_valid_patterns(self):
        for text in VALID:
            self.assertEqual(broken_rules(parse_pattern(text)), set(), text)
            self.assertEqual(broken_rule(parse_pattern(text)), 0, text)

    def test_each_rule_alone(self):
        for number, texts in ALONE.items():
            for text in texts:
                pattern = parse_pattern(text)
                self.assertEqual(broken_rules(pattern), {number}, text)
                self.assertEqual(broken_rule(pattern), number, text)

    def test_each_rule_with_a_later_one(self):
        for (first, second), text in TOGETHER.items():
            pattern = parse_pattern(text)
            self.assertLessEqual({first, second}, broken_rules(pattern), text)
            self.assertEqual(min(broken_rules(pattern)), first, text)
            self.assertEqual(broken_rule(pattern), first, text)

    def test_many_patterns(self):
        source = random.Random(7)
        seen = set()
        for _ in range(20000):
            pattern = random_pattern(source)
            expected = min(broken_rules(pattern), default=0)
            self.assertEqual(broken_rule(pattern), expected, pattern.messages)
            seen.add(expected)
        self.assertEqual(seen, {0, 1, 2, 3, 4, 5, 6})

    def test_broken_rule_keeps_its_argument(self):
        pattern = parse_pattern("-> s\n...\n-> e\n<- e, se")
        fields = (pattern.name, pattern.before, pattern.messages)
        broken_rule(pattern)
        self.assertEqual((pattern.name, pattern.before, pattern.messages), fields)


class Needs(HushCase):
    def check(self, text, opener, answerer, psk=False):
        """The values of needs_secret, needs_peer and sends_secret for both ends."""
        pattern = parse_pattern(text)
        for end, expected in ((True, opener), (False, answerer)):
            found = [function(pattern, opener=end)
                     for function in (needs_secret, needs_peer, sends_secret)]
            for one, other in zip(found, expected):
                self.assertIs(one, other, (text, end))
        self.assertIs(uses_psk(pattern), psk)

    def test_without_static_keys(self):
        self.check("-> e\n<- e, ee", (False, False, False), (False, False, False))
        self.check("-> e\n<- e\n...\n-> ee", (False, False, False), (False, False, False))

    def test_pre_messages(self):
        self.check("-> s\n...\n-> e", (True, False, False), (False, True, False))
        self.check("<- s\n...\n-> e, es", (False, True, False), (True, False, False))
        self.check("-> s\n<- s\n...\n-> e", (True, True, False), (True, True, False))
        self.check("-> e, s\n...\n<- e", (True, False, False), (False, True, False))
        self.check("-> s\n<- e\n...\n<- e", (True, False, False), (False, True, False))

    def test_messages(self):
        self.check("-> e, s\n<- e, ee", (True, False, True), (False, False, False))
        self.check("-> e\n<- e, ee, s, es", (False, False, False), (True, False, True))
        self.check("-> e\n<- e, ee, s\n-> s, es, se", (True, False, True), (True, False, True))
        self.check("<- s\n-> s", (True, False, True), (True, False, True))
        self.check("<- s", (False, False, False), (True, False, True))

    def test_messages_and_pre_messages(self):
        self.check("<- s\n...\n-> e, es, s, ss", (True, True, True), (True, False, False))
        self.check("-> s\n...\n-> e\n<- e, ee, se, s, es", (True, False, False), (True, True, True))

    def test_tokens_that_only_name_a_static_key(self):
        self.check("-> e, es, se, ss", (False, False, False), (False, False, False))

    def test_psk(self):
        for text in ("-> psk, e", "-> e, psk", "-> e\n<- e, ee, psk", "-> e\n<- e\n-> psk",
                     "-> e, psk, ee"):
            self.check(text, (False,) * 3, (False,) * 3, True)

    def test_the_argument_is_not_changed(self):
        pattern = parse_pattern("<- s\n...\n-> e, es, psk")
        fields = (pattern.name, pattern.before, pattern.messages)
        for function in (needs_secret, needs_peer, sends_secret):
            function(pattern, opener=True)
        uses_psk(pattern)
        self.assertEqual((pattern.name, pattern.before, pattern.messages), fields)


if __name__ == "__main__":
    unittest.main()
