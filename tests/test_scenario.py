import random
import unittest

from hushlink.errors import BadLine
from hushlink.net import Net
from hushlink.scenario import play, read_scenario, report, write_scenario
from hushlink.suites import SmallSuite
from support import HushCase, some_bytes, spoil
from talking import public_of, secret_of, seed_of

SMALL = SmallSuite()
DEEDS = (
    ("deliver 0 1 2", ("deliver", 0, 1, 2)),
    ("drop 10 0 0", ("drop", 10, 0, 0)),
    ("repeat 0 0 5", ("repeat", 0, 0, 5)),
    ("move 1 1 3 0", ("move", 1, 1, 3, 0)),
    ("split 1 0 0 17", ("split", 1, 0, 0, 17)),
    ("join 0 1 0", ("join", 0, 1, 0)),
    ("change 0 1 2 3 255", ("change", 0, 1, 2, 3, 255)),
    ("carry 0 1 0 15 0", ("carry", 0, 1, 0, 15, 0)),
    ("make 3 0 00ff0a", ("make", 3, 0, (0, 255, 10))),
    ("make 3 0 -", ("make", 3, 0, ())),
    ("open 0 1 bob ann", ("open", 0, 1, "bob", "ann")),
    ("open 0 1 - -", ("open", 0, 1, None, None)),
    ("open 7 7 a-1 -", ("open", 7, 7, "a-1", None)),
    ("open 0 1 - 0", ("open", 0, 1, None, "0")),
    ("post 0 1 0102", ("post", 0, 1, (1, 2))),
    ("post 0 1 -", ("post", 0, 1, ())),
    ("fetch 0 1", ("fetch", 0, 1)),
    ("finish 4 0", ("finish", 4, 0)),
    ("break 4 1", ("break", 4, 1)),
    ("tick 3 1000000", ("tick", 3, 1000000)),
    ("power 0 0", ("power", 0, 0)),
    ("crash 1 65536 4", ("crash", 1, 65536, 4)),
)


def net_of_two():
    homes = [(seed_of(SMALL, number), secret_of(SMALL, number), [("ann", public_of(SMALL, 1))], {})
             for number in (1, 2)]
    return Net(SMALL, homes)


class Reading(HushCase):
    def assert_bad(self, text, line):
        with self.assertRaises(BadLine) as caught:
            read_scenario(text)
        self.assertEqual(caught.exception.line, line)

    def test_each_deed(self):
        for line, deed in DEEDS:
            self.assertEqual(read_scenario(line), [deed])
            self.assertEqual(write_scenario([deed]), line)
        text = "\n".join(line for line, _ in DEEDS)
        deeds = [deed for _, deed in DEEDS]
        self.assertEqual(read_scenario(text), deeds)
        self.assertEqual(read_scenario(text + "\n"), deeds)
        self.assertEqual(self.assert_keeps(write_scenario, deeds), text)
        self.assert_fresh(read_scenario, text)

    def test_empty_lines_and_comments(self):
        for text in ("", "\n", "\n\n\n", "#", "# drop 0 0", "#drop 0 0 0\n", "##\n#\n\n#x"):
            self.assertEqual(read_scenario(text), [])
        self.assertEqual(read_scenario("\n# a\nfetch 0 1\n\n#\nfetch 1 0\n\n"),
                         [("fetch", 0, 1), ("fetch", 1, 0)])
        self.assertEqual(write_scenario([]), "")

    def test_numbers(self):
        for word, number in (("0", 0), ("7", 7), ("10", 10), ("9" * 18, 10 ** 18 - 1)):
            self.assertEqual(read_scenario("fetch 0 " + word), [("fetch", 0, number)])
        for word in ("1" * 19, "0" * 18, "00", "01", "-1", "+1", "1.0", "1_0", "a", "-", "\u0661",
                     "\xb2", "0x1", "1\t", "\t1"):
            for line in ("fetch 0 " + word, "fetch " + word + " 0", "post " + word + " 0 00",
                         "open 0 " + word + " - -", "change 0 0 0 0 " + word):
                self.assert_bad(line, 1)

    def test_digits(self):
        self.assertEqual(read_scenario("make 0 0 aAFf"), [("make", 0, 0, (170, 255))])
        for word in ("0", "abc", "0g", "--", "-0", "0 0", "", "00 ", "0x"):
            self.assert_bad("make 0 0 " + word, 1)
            self.assert_bad("post 0 0 " + word, 1)

    def test_names(self):
        for name in ("a", "z9-", "--", "-a", "a" * 32):
            self.assertEqual(read_scenario("open 0 1 " + name + " -"), [("open", 0, 1, name, None)])
            self.assertEqual(read_scenario("open 0 1 - " + name), [("open", 0, 1, None, name)])
        for name in ("A", "a" * 33, "a_b", "", "\xe4", "None"):
            self.assert_bad("open 0 1 " + name + " -", 1)
            self.assert_bad("open 0 1 - " + name, 1)

    def test_spoilt_lines(self):
        for line, _ in DEEDS:
            words = line.split(" ")
            spoilt = [" " + line, line + " ", line.replace(" ", "  ", 1), line + " 0", line + "\r",
                      line.replace(" ", "\t", 1), " ".join(words[:-1]), words[0], line.upper(),
                      "x" + line, words[0] + "s" + line[len(words[0]):], line + " #", line + "#"]
            for text in spoilt:
                self.assert_bad(text, 1)
        for text in (" ", "\t", " # x", "\r", "-", "deed", "effect 0 0 parted 0", "number 0 0 0"):
            self.assert_bad(text, 1)

    def test_the_number_of_the_line(self):
        self.assert_bad("fetch 0 0\n\n# x\n \nfetch", 4)
        self.assert_bad("fetch 0 0\nfetch 0\nfetch 0", 2)
        self.assert_bad("\n" * 99 + "x", 100)
        self.assert_bad("x\n", 1)
        self.assert_bad("#\n" * 5 + "fetch 0 0\nfetch 0 0 ", 7)

    def test_drawn_scenarios(self):
        drawn = random.Random(2)
        parts = {"name": lambda: drawn.choice((None, "ann", "b-2")),
                 "data": lambda: tuple(some_bytes(drawn.randrange(4), drawn.randrange(99))),
                 "number": lambda: drawn.choice((0, 1, 9, 10, drawn.randrange(10 ** 18)))}
        forms = {deed[0]: ["data" if isinstance(part, tuple) else
                           "number" if isinstance(part, int) else "name" for part in deed[1:]]
                 for _, deed in DEEDS}
        for _ in range(200):
            deeds = []
            for _ in range(drawn.randrange(6)):
                word = drawn.choice(sorted(forms))
                deeds.append((word,) + tuple(parts[kind]() for kind in forms[word]))
            text = write_scenario(deeds)
            self.assertEqual(read_scenario(text), deeds)
            self.assertEqual(text.count("\n"), max(0, len(deeds) - 1))


class Reports(HushCase):
    ENTRIES = (
        (("effect", 0, 1, ("bytes", 1, (0, 255))), "effect 0 1 bytes 1 00ff"),
        (("effect", 2, 0, ("ready", 4, (1, 2), "ann", (3, 4))), "effect 2 0 ready 4 0102 ann 0304"),
        (("effect", 2, 0, ("ready", 4, None, None, (3,))), "effect 2 0 ready 4 - - 03"),
        (("effect", 0, 0, ("waits", 0, 17)), "effect 0 0 waits 0 17"),
        (("effect", 0, 0, ("message", 0, ())), "effect 0 0 message 0 -"),
        (("effect", 0, 0, ("message", 0, (7,))), "effect 0 0 message 0 07"),
        (("effect", 0, 0, ("nothing", 0)), "effect 0 0 nothing 0"),
        (("effect", 0, 0, ("changed", 0)), "effect 0 0 changed 0"),
        (("effect", 0, 0, ("whole", 0)), "effect 0 0 whole 0"),
        (("effect", 0, 0, ("over", 0)), "effect 0 0 over 0"),
        (("effect", 0, 0, ("failed", 0, "alarm")), "effect 0 0 failed 0 alarm"),
        (("effect", 0, 0, ("parted", 0)), "effect 0 0 parted 0"),
        (("posted", 0, 1, (1, 16)), "posted 0 1 0110"),
        (("posted", 0, 1, ()), "posted 0 1 -"),
        (("finished", 3, 0), "finished 3 0"),
        (("error", 0, 0, "OutOfOrder"), "error 0 0 OutOfOrder"),
        (("down", 5), "down 5"),
        (("began", 5, 12), "began 5 12"),
    )

    def test_each_entry(self):
        for entry, line in self.ENTRIES:
            self.assertEqual(report([entry]), line)
        entries = [entry for entry, _ in self.ENTRIES]
        self.assertEqual(self.assert_keeps(report, entries),
                         "\n".join(line for _, line in self.ENTRIES))
        self.assertEqual(report([]), "")


class Playing(HushCase):
    TEXT = """# a connection, and a message
open 0 1 - ann
deliver 0 0 0
deliver 0 1 0

deliver 0 0 0
post 0 0 0a
deliver 0 0 0
fetch 0 1
fetch 0 1
drop 0 0 0
finish 0 9
break 0 0
break 0 0
crash 0 0 0
power 0 0
open 0 1 - -
crash 0 0 0
"""

    def test_play(self):
        net, other = net_of_two(), net_of_two()
        # What was done before does not stand in the report.
        for one in (net, other):
            one.do(("tick", 0, 1))
        found = play(net, self.TEXT)
        entries = []
        for deed in read_scenario(self.TEXT):
            entries += other.do(deed)
        self.assertEqual(found, report(entries))
        self.assertEqual(net.trace(), entries)
        lines = found.split("\n")
        self.assertEqual([line.split(" ")[0] for line in lines],
                         ["effect"] * 5 + ["posted"] + ["effect"] * 5 +
                         ["error", "began", "error", "down", "began"])
        self.assertEqual(lines[7:], ["effect 0 1 waits 1 1", "effect 0 1 message 1 0a",
                                     "effect 0 1 nothing 1", "effect 0 0 parted 0",
                                     "error 0 0 OutOfOrder", "began 0 1",
                                     "error 1 0 PowerLost", "down 0", "began 0 2"])
        self.assertEqual(play(net, "fetch 0 1"), "effect 0 1 nothing 1")
        self.assertEqual(play(net, ""), "")
        self.assertEqual(play(net, "drop 5 5 5\n"), "")

    def test_a_line_that_is_bad_stops_everything(self):
        net = net_of_two()
        with self.assertRaises(BadLine) as caught:
            play(net, "open 0 1 - -\nfetch 0 1\nfetch 0 1 \n")
        self.assertEqual(caught.exception.line, 3)
        self.assertEqual((net.trace(), net.wires()), ([], []))

    def test_lists_are_their_own(self):
        deeds = read_scenario(self.TEXT)
        before = list(deeds)
        net = net_of_two()
        self.assert_keeps(write_scenario, deeds)
        for deed in deeds:
            spoil(net.do(deed))
        self.assertEqual(deeds, before)
        self.assertEqual(report(net.trace()), play(net_of_two(), self.TEXT))


if __name__ == "__main__":
    unittest.main()
