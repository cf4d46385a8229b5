import unittest

from hushlink.catalog import PATTERN_NAMES, pattern_named
from hushlink.connection import Connection
from hushlink.disk import Disk
from hushlink.ends import End
from hushlink.entries import write_record
from hushlink.errors import Exhausted, HushError, OutOfOrder, OutOfRange, PowerLost, Refused
from hushlink.handshake import Handshake
from hushlink.options import Options
from hushlink.rules import needs_peer
from hushlink.sending import Sender
from hushlink.store import Store
from hushlink.suites import SmallSuite, StandardSuite
from support import HushCase, some_bytes, spoil
from talking import (PSK, Party, Plain, carry, first_piece, frame, parties, public_of, ready_pair,
                     secret_of, seed_of, store_of)

STANDARD, SMALL = StandardSuite(), SmallSuite()
SUITES = (STANDARD, SMALL)
TWO_LETTERS = [name for name in PATTERN_NAMES if len(name) > 1]
MOST = 1048576


def psk_names(name):
    """The pattern with each psk modifier that is possible, and with two of them."""
    found = []
    for modifier in ("psk0", "psk1", "psk2", "psk3", "psk4", "psk5", "psk0+psk2"):
        try:
            pattern_named(name + modifier)
            found.append(name + modifier)
        except HushError:
            pass
    return found


def shown_key(name, opener):
    """Whether the other side's static key gets known in a pattern."""
    return name[0 if not opener else -1 if name[-1] != "1" else -2] != "N"


class Handshakes(HushCase):
    def check(self, suite, name, psk=None):
        plain = Plain(suite, name, [5, 6], psk)
        one, two = parties(suite, name, prologue=[5, 6], psk=psk)
        self.assertEqual(two.tell(two.end.answer(9, "ann")), [])
        effects = one.tell(one.end.start(4, "bob"))
        self.assertEqual(effects, [("bytes", 4, plain.pieces(0)[0])])
        self.assertEqual((one.end.stage(4), two.end.stage(9)), ("shaking", "shaking"))
        carry(one, two, 4, 9)
        bare = name.partition("psk")[0]
        sides = ((one, 4, 0, "bob", 2, shown_key(bare, True)),
                 (two, 9, 1, "ann", 1, shown_key(bare, False)))
        for party, link, side, peer, number, shown in sides:
            key = public_of(suite, number) if shown else None
            expected = [("bytes", link, piece) for piece in plain.pieces(side)]
            expected.append(("ready", link, key, peer if shown else None, plain.hash))
            self.assertEqual(party.effects, expected)
            self.assertEqual(party.end.stage(link), "ready")
        for sender, taker, link, other, key in ((one, two, 4, 9, plain.keys[0]),
                                                (two, one, 9, 4, plain.keys[1])):
            message = some_bytes(5)
            effects = sender.end.post(link, message)
            data = Sender(suite, key).message(message)
            self.assertEqual(effects, [("bytes", link, data)])
            self.assertEqual(taker.end.receive(other, data), [("waits", other, 5)])
            self.assertEqual(taker.end.fetch(other), [("message", other, message)])

    def test_every_pattern(self):
        self.assertEqual(len(TWO_LETTERS), 35)
        for suite in SUITES:
            for name in TWO_LETTERS:
                with self.subTest(suite=suite.name, name=name):
                    self.check(suite, name)

    def test_psk(self):
        for name in TWO_LETTERS:
            for full in psk_names(name):
                with self.subTest(name=full):
                    self.check(SMALL, full, PSK)
        for full in ("NNpsk0", "XXpsk3", "IKpsk2", "KKpsk0+psk2", "X1X1psk4"):
            self.check(STANDARD, full, PSK)

    def test_the_first_piece(self):
        for suite in SUITES:
            one, _ = parties(suite, "NN")
            store = store_of(suite, 1)
            public = suite.public(store.fresh())
            size = suite.key_size
            data = [2, 78, 78, 0, size] + public
            self.assertEqual(one.end.start(0, "bob"), [("bytes", 0, data)])
            # The next connection has the next ephemeral secret.
            data = [2, 78, 78, 0, size] + suite.public(store.fresh())
            self.assertEqual(one.end.start(1), [("bytes", 1, data)])
            self.assertEqual(one.store.state()[4], 2)

    def test_the_first_pattern_opens_and_all_answer(self):
        names = ("NN", "XX", "IK")
        for name in names:
            one = Party(SMALL, 1, {"bob": 2}, patterns=(name,))
            two = Party(SMALL, 2, patterns=names)
            two.end.answer(1)
            one.tell(one.end.start(1, "bob"))
            carry(one, two, 1, 1)
            self.assertEqual((one.end.stage(1), two.end.stage(1)), ("ready", "ready"))
        self.assertEqual(two.end.start(5)[0][2][:3], [2, 78, 78])

    def test_the_answerer_takes_its_secret_with_the_first_frame(self):
        for suite in SUITES:
            one, two = parties(suite, "XX")
            two.end.answer(1)
            piece = one.end.start(1)[0][2]
            self.assertEqual(two.end.receive(1, piece[:-1]), [])
            self.assertEqual(two.store.state()[4], 0)
            effects = two.end.receive(1, piece[-1:])
            self.assertEqual(two.store.state()[4], 1)
            self.assertEqual(effects, [("bytes", 1, Plain(suite, "XX").pieces(1)[0])])

    def test_names_of_keys(self):
        """The first name in the order of strings, or None."""
        for names, expected in (({}, None), ({"z": 1, "b": 1, "a": 3}, "b"), ({"x": 4}, None)):
            one, two = Party(SMALL, 1, {"bob": 2}), Party(SMALL, 2, names)
            two.end.answer(1)
            one.tell(one.end.start(1))
            carry(one, two, 1, 1)
            self.assertEqual(two.effects[-1][:4], ("ready", 1, public_of(SMALL, 1), expected))


class Starting(HushCase):
    def test_errors_in_their_order(self):
        for suite in SUITES:
            end = Party(suite, 1, {"bob": 2}, patterns=("NK",), limits=(9, 0, 9, 9, 2)).end
            for name in (None, "cleo"):
                with self.assertRaises(Refused):
                    end.start(1, name)
            end.start(1, "bob")
            for name in ("bob", "cleo", None):
                for call in (end.start, end.answer):
                    with self.assertRaises(OutOfOrder):
                        call(1, name)
            self.assertEqual(end.answer(2, "cleo"), [])
            for name in ("bob", "cleo", None):
                for call in (end.start, end.answer):
                    with self.assertRaises(OutOfOrder):
                        call(2, name)
                    with self.assertRaises(Refused):
                        call(3, name)
            self.assertEqual(end.links(), [1, 2])
            self.assertEqual((end.stage(1), end.stage(2), end.stage(3)),
                             ("shaking", "shaking", "over"))

    def full_store(self, suite):
        data = write_record(1, [0, 0, 0, 1] + seed_of(suite, 1) + [1] + secret_of(suite, 1))
        data += write_record(3, [255] * 8) + write_record(2, [])
        disk = Disk()
        disk.write(0, data)
        disk.settle(0)
        return Store(suite, disk)

    def test_no_numbers_left(self):
        for suite in SUITES:
            end = End(suite, self.full_store(suite), patterns=("NK", "XX"))
            with self.assertRaises(Refused):
                end.start(1)
            end = End(suite, self.full_store(suite), patterns=("XX", "NK"))
            with self.assertRaises(Exhausted):
                end.start(1)
            self.assertEqual(end.links(), [])
            self.assertEqual(end.stage(1), "over")
            # It goes on: the answerer fails only with the first frame.
            self.assertEqual(end.answer(1), [])
            piece = Plain(suite, "XX").pieces(0)[0]
            self.assertEqual(end.receive(1, piece[:-1]), [])
            self.assertEqual(end.receive(1, piece[-1:]), [("failed", 1, "limit")])
            self.assertEqual(end.links(), [])

    def test_which_patterns_need_a_key(self):
        for name in TWO_LETTERS:
            end = Party(SMALL, 1, {"cleo": 3}, patterns=(name,)).end
            needed = name.rstrip("1")[-1] == "K"
            self.assertEqual(needed, needs_peer(pattern_named(name), opener=True))
            for peer in (None, "bob"):
                if needed:
                    with self.assertRaises(Refused):
                        end.start(1, peer)
                    self.assertEqual(end.links(), [])
                else:
                    end.start(1 if peer else 2, peer)
            self.assertEqual(len(end.start(7, "cleo")), 1)

    def test_numbers_of_connections(self):
        for most in range(1, 17):
            one = Party(SMALL, 1, patterns=("NN",), limits=(9, 0, 9, 9, most)).end
            for link in range(most):
                call = one.answer if link % 2 else one.start
                call(999999 - link)
            for call in (one.start, one.answer):
                with self.assertRaises(Refused):
                    call(0)
            self.assertEqual(one.links(), list(range(1000000 - most, 1000000)))
            one.cut_link(999999)
            self.assertEqual(one.start(0)[0][:2], ("bytes", 0))

    def test_a_link_that_is_used_again(self):
        one, two = ready_pair(SMALL)
        two.end.receive(8, one.end.post(3, [1])[0][2])
        two.end.cut_link(8)
        # What waits is still there, until the link is used again.
        with self.assertRaises(Refused):
            Party(SMALL, 2, patterns=("NK",)).end.start(8)
        self.assertEqual(two.end.fetch(8), [("message", 8, [1])])
        for call in (two.end.start, two.end.answer):
            one, two = ready_pair(SMALL)
            for number in (1, 2):
                two.end.receive(8, one.end.post(3, [number])[0][2])
            two.end.cut_link(8)
            self.assertEqual(two.end.fetch(8), [("message", 8, [1])])
            call = two.end.start if call.__name__ == "start" else two.end.answer
            call(8)
            self.assertEqual(two.end.stage(8), "shaking")
            self.assertEqual(two.end.fetch(8), [("nothing", 8)])

    def test_an_error_drops_nothing(self):
        one, two = ready_pair(SMALL, limits=(9, 0, 9, 9, 1))
        two.end.receive(8, one.end.post(3, [1])[0][2])
        two.end.cut_link(8)
        two.end.answer(5)
        for call in (two.end.start, two.end.answer):
            with self.assertRaises(Refused):
                call(8)
        self.assertEqual(two.end.fetch(8), [("message", 8, [1])])

    def test_public_key(self):
        for suite in SUITES:
            self.assertEqual(Party(suite, 1).end.public_key(), public_of(suite, 1))
            party = Party(suite, 1, secret=False, patterns=("NN",))
            self.assertIsNone(party.end.public_key())
            self.assert_fresh(Party(suite, 1).end.public_key)

    def test_links_are_their_own(self):
        end = Party(SMALL, 1).end
        end.answer(5)
        end.answer(2)
        self.assertEqual(end.links(), [2, 5])
        self.assert_fresh(end.links)


class Failures(HushCase):
    """The reasons of point 187."""

    def assert_fails(self, party, link, data, expected, before=0):
        """The first bytes have no failure; the last one of the data has it, whatever follows."""
        found = []
        for byte in data:
            self.assertNotIn("failed", [effect[0] for effect in found])
            found += party.end.receive(link, [byte])
        self.assertEqual(found[before:], expected)
        self.assertEqual(party.end.stage(link), "over")
        self.assertEqual(party.end.receive(link, [1, 2, 3]), [])

    def check(self, make, data, expected, before=0):
        """make returns a party that waits for data on link 1."""
        self.assert_fails(make(), 1, data, expected, before)
        for more in ([], [0], [1] * 500):
            party = make()
            found = party.end.receive(1, data + more)
            self.assertEqual(found[before:], expected)
            self.assertEqual(party.end.links(), [])

    def answerer(self, suite, name=None, names=None, **options):
        def make():
            party = Party(suite, 2, {"ann": 1} if names is None else names, **options)
            party.end.answer(1, name)
            return party
        return make

    def test_names(self):
        for suite in SUITES:
            make = self.answerer(suite, patterns=("XX", "NN"))
            form = [("failed", 1, "form")]
            self.check(make, [0], form)
            for name in ("X", "XN", "xx", "XX ", "XXX", "XXpsk0", "a" * 60, "a" * 61, "a" * 255):
                self.check(make, [len(name)] + list(name.encode()), form)
            self.check(make, [2, 255, 0], form)
            for name in ("XX", "NN"):
                party = make()
                self.assertEqual(party.end.receive(1, [2] + list(name.encode())), [])
                self.assertEqual(party.end.stage(1), "shaking")

    def test_the_peers_key_is_needed(self):
        for suite in SUITES:
            for name in ("KN", "KK", "K1X", "KX1"):
                piece = [len(name)] + list(name.encode())
                for expected, names in ((None, {"ann": 1}), ("bob", {"ann": 1}), ("ann", {})):
                    make = self.answerer(suite, expected, names, patterns=("XX", name))
                    self.check(make, piece, [("failed", 1, "peer")])
                party = self.answerer(suite, "ann", patterns=("XX", name))()
                self.assertEqual(party.end.receive(1, piece), [])

    def test_the_key_of_this_moment(self):
        """The opener's key is the one that the store has when the name is there."""
        for suite in SUITES:
            for change in ("before", "after"):
                one, two = parties(suite, "KN", rule=("any",))
                two.end.answer(1, "ann")
                piece = one.end.start(1, "bob")[0][2]
                if change == "before":
                    two.store.release("ann", public_of(suite, 1))
                    self.assertEqual(two.end.receive(1, piece[:3]), [("failed", 1, "peer")])
                    continue
                self.assertEqual(two.end.receive(1, piece[:3]), [])
                two.store.release("ann", public_of(suite, 1))
                two.store.keep_name("ann", public_of(suite, 3))
                effects = two.end.receive(1, piece[3:])
                self.assertEqual(effects[-1][:4], ("ready", 1, public_of(suite, 1), None))
        # A key that comes only after answer counts.
        party = Party(SMALL, 2, patterns=("KN",))
        party.end.answer(1, "ann")
        party.store.keep_name("ann", public_of(SMALL, 1))
        piece = Plain(SMALL, "KN").pieces(0)[0]
        self.assertEqual(party.end.receive(1, piece)[-1][0], "ready")

    def test_frames_that_are_wrong(self):
        for suite in SUITES:
            make = self.answerer(suite, patterns=("XX", "NK", "NN", "NNpsk0"), psk=PSK)
            size = suite.key_size
            piece = Plain(suite, "XX").pieces(0)[0]
            form, seal = [("failed", 1, "form")], [("failed", 1, "seal")]
            public = piece[5:]
            self.check(make, [2, 88, 88] + frame([]), form)
            self.check(make, [2, 88, 88] + frame(public[1:]), form)
            # A weak key.
            self.check(make, [2, 88, 88] + frame([0] * size), form)
            self.check(make, [2, 88, 88] + frame([255] * size), form)
            # A payload, which is not sealed in this message.
            self.check(make, [2, 88, 88] + frame(public + [7]), form)
            self.check(make, [2, 88, 88] + frame(public + [7] * 60000), form)
            # A payload that opens.
            for name, psk in (("NK", None), ("NNpsk0", PSK)):
                peer = public_of(suite, 2) if name == "NK" else None
                shaking = Handshake(suite, pattern_named(name), opener=True, psk=psk, peer=peer,
                                    ephemeral=seed_of(suite, 7))
                message = shaking.write([1])
                self.check(make, first_piece(name, message), form)
                self.check(make, first_piece(name, message[:-1]), seal)
                message[-1] ^= 1
                self.check(make, first_piece(name, message), seal)
                message[0] ^= 2
                self.assertIn(make().end.receive(1, first_piece(name, message)), (form, seal))

    def test_later_messages(self):
        for suite in SUITES:
            plain = Plain(suite, "XX")

            def opener():
                party = Party(suite, 1, {"bob": 2})
                party.end.start(1, "bob")
                return party

            def answerer():
                party = Party(suite, 2, {"ann": 1})
                party.end.answer(1, "ann")
                party.end.receive(1, plain.pieces(0)[0])
                return party

            for make, piece in ((opener, plain.pieces(1)[0]), (answerer, plain.pieces(0)[1])):
                form, seal = [("failed", 1, "form")], [("failed", 1, "seal")]
                self.check(make, piece[:-1] + [piece[-1] ^ 1], seal)
                self.check(make, frame(piece[2:-1]), form)
                self.check(make, frame(piece[2:] + [0]), seal)
                self.check(make, frame([]), form)
                self.check(make, frame([0] * len(piece[2:])), form if make is opener else seal)
                self.assertEqual(make().end.receive(1, piece)[-1][0], "ready")

    def test_the_greatest_frame(self):
        party = self.answerer(SMALL, patterns=("XX",))()
        data = [2, 88, 88, 255, 255] + [9] * 65534
        self.assertEqual(party.end.receive(1, data), [])
        self.assertEqual(party.end.receive(1, [9])[0][0], "failed")

    def test_no_effect_without_a_connection(self):
        end = Party(SMALL, 1).end
        self.assertEqual(end.receive(1, [1, 2, 3]), [])
        end.answer(2)
        self.assertEqual(end.receive(1, [1, 2, 3]), [])
        self.assertEqual(end.stage(1), "over")


class Cutting(HushCase):
    def test_single_bytes(self):
        """The effects are the same, however the bytes are cut."""
        for suite in SUITES:
            for name in ("NN", "XX", "IK1", "X1X1"):
                one, two = parties(suite, name, limits=(9, 0, 3, 10, 4))
                two.end.answer(8, "ann")
                one.tell(one.end.start(3, "bob"))
                one.tell(one.end.post(3, some_bytes(4)))
                carry(one, two, 3, 8)
                for number in range(5):
                    one.tell(one.end.post(3, [number] * number))
                one.tell(one.end.finish(3))
                data = sum(one.sent(3), [])
                for more in ([], [1, 2, 3]):
                    for size in (1, 2, 7, 5000):
                        other = parties(suite, name, limits=(9, 0, 3, 10, 4))[1]
                        other.tell(other.end.answer(8, "ann"))
                        given = data + more
                        for start in range(0, len(given), size):
                            other.tell(other.end.receive(8, given[start:start + size]))
                        whole = parties(suite, name, limits=(9, 0, 3, 10, 4))[1]
                        whole.tell(whole.end.answer(8, "ann"))
                        whole.tell(whole.end.receive(8, given))
                        self.assertEqual(other.effects, whole.effects)
                        self.assertEqual(other.end.stage(8), whole.end.stage(8))
                        kinds = [effect[0] for effect in whole.effects]
                        self.assertIn("ready", kinds)
                        self.assertIn("failed" if name else "whole", kinds)


class Rules(HushCase):
    def shake(self, name, rule, expected="ann", names=None, opener_rule=("any",)):
        one = Party(SMALL, 1, {"bob": 2}, patterns=(name,), rule=opener_rule)
        two = Party(SMALL, 2, {"ann": 1} if names is None else names, patterns=(name,), rule=rule)
        two.tell(two.end.answer(8, expected))
        one.tell(one.end.start(3, "bob"))
        carry(one, two, 3, 8)
        return one, two

    def kinds(self, party):
        return [effect[0] for effect in party.effects]

    def test_the_answerer(self):
        key = public_of(SMALL, 1)
        good = ((("any",), "ann", {}), (("pinned", [key]), None, {}), (("names",), "ann", {"ann": 1}),
                (("names",), None, {"x": 1}), (("first",), "ann", {"ann": 1}),
                (("first",), "ann", {}), (("first",), None, {}))
        bad = ((("nobody",), "ann", {"ann": 1}), (("pinned", []), "ann", {"ann": 1}),
               (("pinned", [public_of(SMALL, 2)]), "ann", {"ann": 1}),
               (("names",), "ann", {"x": 1}), (("names",), "ann", {"ann": 3}),
               (("names",), None, {"ann": 3}), (("first",), "ann", {"ann": 3}))
        for name in ("XX", "XN", "IN", "IX", "X1X1"):
            for rule, expected, names in good:
                _, two = self.shake(name, rule, expected, names)
                self.assertEqual(self.kinds(two)[-1], "ready", (name, rule, expected, names))
            for rule, expected, names in bad:
                one, two = self.shake(name, rule, expected, names)
                self.assertEqual(two.effects[-1], ("failed", 8, "peer"))
                self.assertNotIn("ready", self.kinds(two))
                self.assertEqual(two.end.stage(8), "over")

    def test_the_moment(self):
        """As soon as the key is known: IX shows it in message 1, XX in message 3."""
        _, two = self.shake("IX", ("nobody",))
        self.assertEqual(two.effects, [("failed", 8, "peer")])
        _, two = self.shake("XX", ("nobody",))
        self.assertEqual(self.kinds(two), ["bytes", "failed"])
        # A key that is known beforehand: with the first message that was read.
        _, two = self.shake("KN", ("nobody",))
        self.assertEqual(two.effects, [("failed", 8, "peer")])
        one, _ = self.shake("NK", ("any",), opener_rule=("nobody",))
        self.assertEqual((self.kinds(one), one.effects[-1]), (["bytes", "failed"],
                                                              ("failed", 3, "peer")))
        # The opener of XX does not write its last message to a key that is not accepted.
        one, _ = self.shake("XX", ("any",), opener_rule=("nobody",))
        self.assertEqual((self.kinds(one), one.effects[-1]), (["bytes", "failed"],
                                                              ("failed", 3, "peer")))

    def test_a_peer_that_shows_no_key(self):
        for rule in (("pinned", [public_of(SMALL, 1)]), ("names",), ("first",)):
            # NN and NX: the answerer has written the last message before.
            for name in ("NN", "NX"):
                _, two = self.shake(name, rule)
                self.assertEqual((self.kinds(two), two.effects[-1]),
                                 (["bytes", "failed"], ("failed", 8, "peer")))
            # XN: the opener has written the last message before.
            one, _ = self.shake("XN", ("any",), opener_rule=rule)
            self.assertEqual((self.kinds(one), one.effects[-1]),
                             (["bytes", "bytes", "failed"], ("failed", 3, "peer")))
            one, _ = self.shake("NN", ("any",), opener_rule=rule)
            self.assertEqual((self.kinds(one), one.effects[-1]), (["bytes", "failed"],
                                                                  ("failed", 3, "peer")))
        for rule in (("any",), ("nobody",)):
            one, two = self.shake("NN", rule, opener_rule=rule)
            self.assertEqual(two.effects[-1][:4], ("ready", 8, None, None))
            self.assertEqual(one.effects[-1][:4], ("ready", 3, None, None))

    def test_asked_only_once(self):
        """What the store learns after the key was accepted does not matter."""
        one, two = parties(SMALL, "IX1", rule=("names",))
        two.end.answer(8, "ann")
        piece = one.end.start(3, "bob")[0][2]
        effects = two.end.receive(8, piece)
        self.assertEqual([effect[0] for effect in effects], ["bytes"])
        two.store.release("ann", public_of(SMALL, 1))
        answer = one.end.receive(3, effects[0][2])
        self.assertEqual([effect[0] for effect in answer], ["bytes", "ready"])
        self.assertEqual(two.end.receive(8, answer[0][2])[0][:4],
                         ("ready", 8, public_of(SMALL, 1), None))

    def test_first(self):
        key = public_of(SMALL, 1)
        _, two = self.shake("XX", ("first",), "ann", {})
        self.assertEqual(two.effects[-1][:4], ("ready", 8, key, "ann"))
        self.assertEqual(two.store.names(), [("ann", key)])
        _, two = self.shake("XX", ("first",), "cleo", {"ann": 1})
        self.assertEqual(two.effects[-1][:4], ("ready", 8, key, "ann"))
        self.assertEqual(two.store.key_names(key), ["ann", "cleo"])
        _, two = self.shake("XX", ("first",), None, {})
        self.assertEqual(two.effects[-1][:4], ("ready", 8, key, None))
        self.assertEqual(two.store.names(), [])
        _, two = self.shake("XX", ("first",), "ann", {"ann": 1})
        self.assertEqual(two.effects[-1][:4], ("ready", 8, key, "ann"))
        # A handshake that fails keeps nothing.
        _, two = self.shake("XX", ("first",), "ann", {"ann": 3})
        self.assertEqual(two.store.names(), [("ann", public_of(SMALL, 3))])

    def test_first_in_a_full_store(self):
        names = {"n" + str(number): 3 for number in range(64)}
        one, two = self.shake("XX", ("first",), "ann", names)
        self.assertEqual(two.effects[-1], ("failed", 8, "limit"))
        self.assertEqual(self.kinds(two), ["bytes", "failed"])
        self.assertEqual((two.end.stage(8), len(two.store.names())), ("over", 64))
        _, two = self.shake("XX", ("first",), None, names)
        self.assertEqual(self.kinds(two)[-1], "ready")
        # The opener has written its last message before.
        one = Party(SMALL, 1, names, rule=("first",))
        two = Party(SMALL, 2)
        two.end.answer(8)
        one.tell(one.end.start(3, "bob"))
        carry(one, two, 3, 8)
        self.assertEqual((self.kinds(one), one.effects[-1]),
                         (["bytes", "bytes", "failed"], ("failed", 3, "limit")))

    def test_first_with_a_key_that_was_kept_meanwhile(self):
        one = Party(SMALL, 1, patterns=("IX1",))
        two = Party(SMALL, 2, patterns=("IX1",), rule=("first",))
        two.end.answer(8, "ann")
        effects = two.end.receive(8, one.end.start(3)[0][2])
        answer = one.end.receive(3, effects[0][2])
        two.store.keep_name("ann", public_of(SMALL, 3))
        self.assertEqual(two.end.receive(8, answer[0][2]), [("failed", 8, "peer")])
        self.assertEqual(two.store.names(), [("ann", public_of(SMALL, 3))])

    def test_first_for_the_opener(self):
        for name in ("NX", "XX", "IX", "NK"):
            names = {"bob": 2} if name == "NK" else {}
            one = Party(SMALL, 1, names, patterns=(name,), rule=("first",))
            two = Party(SMALL, 2, patterns=(name,))
            two.end.answer(8)
            one.tell(one.end.start(3, "bob"))
            carry(one, two, 3, 8)
            self.assertEqual(one.effects[-1][:4], ("ready", 3, public_of(SMALL, 2), "bob"))
            self.assertEqual(one.store.names(), [("bob", public_of(SMALL, 2))])


class Messages(HushCase):
    def test_sizes(self):
        for suite, sizes in ((SMALL, (0, 1, 16384, 16385, MOST)), (STANDARD, (0, 1, 16385))):
            one, two = ready_pair(suite)
            for size in sizes:
                message = some_bytes(size, size + 1)
                effects = self.assert_keeps(one.end.post, 3, message)
                self.assertEqual([effect[:2] for effect in effects], [("bytes", 3)])
                piece = effects[0][2]
                self.assertEqual(two.end.receive(8, piece), [("waits", 8, size)])
                self.assertEqual(two.end.fetch(8), [("message", 8, message)])
                self.assertEqual(two.end.fetch(8), [("nothing", 8)])

    def test_too_long(self):
        one, two = ready_pair(SMALL)
        with self.assertRaises(OutOfRange):
            one.end.post(3, [0] * (MOST + 1))
        piece = one.end.post(3, [5])[0][2]
        self.assertEqual(two.end.receive(8, piece), [("waits", 8, 1)])

    def test_bytes(self):
        """All frames in one effect; the padding unit is 1, the piece size 16384."""
        for suite in SUITES:
            plain = Plain(suite, "NN")
            one, two = parties(suite, "NN", limits=(9, 0, 3, 9, 4))
            two.end.answer(8)
            one.tell(one.end.start(3))
            carry(one, two, 3, 8)
            for party, link, key in ((one, 3, plain.keys[0]), (two, 8, plain.keys[1])):
                sender = Sender(suite, key, limit=3)
                for size in (0, 5, 16385, 3, 40000):
                    message = some_bytes(size)
                    expected = [("bytes", link, sender.message(message))]
                    self.assertEqual(party.end.post(link, message), expected)
                self.assertEqual(party.end.finish(link), [("bytes", link, sender.close())])

    def test_posts_before_the_connection_is_ready(self):
        for suite in SUITES:
            one, two = parties(suite, "XX")
            two.end.answer(8)
            one.tell(one.end.start(3))
            messages = [some_bytes(size, size) for size in (0, 3, 70)]
            for party, link in ((one, 3), (two, 8)):
                for message in messages:
                    self.assertEqual(party.end.post(link, list(message)), [])
            carry(one, two, 3, 8)
            for party, link, other in ((one, 3, two), (two, 8, one)):
                kinds = [effect[0] for effect in party.effects]
                place = kinds.index("ready")
                self.assertEqual(kinds[place + 1:place + 4], ["bytes"] * 3)
                for message in messages:
                    self.assertEqual(party.end.fetch(link), [("message", link, message)])
                self.assertEqual(party.end.fetch(link), [("nothing", link)])
            # They were sent once.
            self.assertEqual(one.end.post(3, [1])[0][0], "bytes")

    def test_a_message_that_waits_is_a_copy(self):
        one, two = parties(SMALL, "NN")
        two.end.answer(8)
        message = [1, 2]
        two.end.post(8, message)
        spoil(message)
        one.tell(one.end.start(3))
        carry(one, two, 3, 8)
        found = one.end.fetch(3)
        self.assertEqual(found, [("message", 3, [1, 2])])
        spoil(found)

    def test_the_most_that_waits_to_be_sent(self):
        for call in ("start", "answer"):
            party = Party(SMALL, 1)
            getattr(party.end, call)(3)
            half = [7] * (MOST // 2)
            self.assertEqual(party.end.post(3, half), [])
            with self.assertRaises(OutOfRange):
                party.end.post(3, half * 2 + [0])
            with self.assertRaises(Refused):
                party.end.post(3, half + [0])
            self.assertEqual(party.end.post(3, half), [])
            with self.assertRaises(Refused):
                party.end.post(3, [0])
            self.assertEqual(party.end.post(3, []), [])

    def test_everything_that_waits_is_sent(self):
        one, two = parties(SMALL, "NN", limits=(9, 0, 1000, 0, 4))
        two.end.answer(8)
        one.tell(one.end.start(3))
        message = some_bytes(MOST)
        one.end.post(3, message)
        one.end.post(3, [])
        carry(one, two, 3, 8)
        # Two messages wait, with more bytes than the limit: a failure, and an alarm.
        self.assertEqual([effect[0] for effect in two.effects],
                         ["bytes", "ready", "waits", "waits", "bytes", "failed"])
        self.assertEqual(two.end.fetch(8), [("message", 8, message)])
        self.assertEqual(one.effects[-1], ("failed", 3, "alarm"))

    def test_the_limit_of_waiting_bytes(self):
        for limit in (0, 1, 10):
            one, two = ready_pair(SMALL, limits=(9, 0, 1000, limit, 4))
            # One message may be longer.
            sizes = (50,)
            for size in sizes:
                data = one.end.post(3, [1] * size)[0][2]
                self.assertEqual(two.end.receive(8, data), [("waits", 8, size)])
            self.assertEqual(two.end.fetch(8), [("message", 8, [1] * 50)])
            # Exactly the limit, with two messages.
            for size in (limit, 0, 0):
                data = one.end.post(3, [1] * size)[0][2]
                self.assertEqual(two.end.receive(8, data), [("waits", 8, size)])
            alarm = Sender(SMALL, two.end.lines[8].sender.key, limit=1000).alarm(1)
            data = one.end.post(3, [1])[0][2]
            self.assertEqual(two.end.receive(8, data + data), [
                ("waits", 8, 1), ("bytes", 8, alarm), ("failed", 8, "limit")])
            self.assertEqual(two.end.stage(8), "over")
            for size in (limit, 0, 0, 1):
                self.assertEqual(two.end.fetch(8), [("message", 8, [1] * size)])
            self.assertEqual(two.end.fetch(8), [("nothing", 8)])
            self.assertEqual(one.end.receive(3, alarm), [("failed", 3, "alarm")])

    def test_nothing_to_fetch(self):
        end = Party(SMALL, 1).end
        self.assertEqual(end.fetch(77), [("nothing", 77)])
        end.answer(77)
        self.assertEqual(end.fetch(77), [("nothing", 77)])

    def test_changes_of_the_key(self):
        for suite in SUITES:
            one, two = ready_pair(suite, limits=(9, 0, 2, 99, 4))
            for sender, link, taker, other in ((one, 3, two, 8), (two, 8, one, 3)):
                events = []
                for number in range(4):
                    data = sender.end.post(link, [number])[0][2]
                    events += taker.end.receive(other, data)
                waits, changed = ("waits", other, 1), ("changed", other)
                self.assertEqual(events, [waits, changed, waits, changed, waits, changed, waits])
                for number in range(4):
                    self.assertEqual(taker.end.fetch(other), [("message", other, [number])])

    def test_errors_of_post_in_their_order(self):
        one, _ = ready_pair(SMALL)
        for link in (5, 8):
            with self.assertRaises(OutOfOrder):
                one.end.post(link, [0] * (MOST + 1))
        one.end.finish(3)
        with self.assertRaises(OutOfOrder):
            one.end.post(3, [0] * (MOST + 1))
        one.end.cut_link(3)
        with self.assertRaises(OutOfOrder):
            one.end.post(3, [])


class Finishing(HushCase):
    def test_one_side(self):
        for suite in SUITES:
            one, two = ready_pair(suite)
            effects = one.end.finish(3)
            self.assertEqual([effect[:2] for effect in effects], [("bytes", 3)])
            self.assertEqual(one.end.stage(3), "finished")
            self.assertEqual(two.end.receive(8, effects[0][2]), [("whole", 8)])
            self.assertEqual(two.end.stage(8), "drained")
            # The other way is still open.
            data = two.end.post(8, [4])[0][2]
            self.assertEqual(one.end.receive(3, data), [("waits", 3, 1)])
            for call in (lambda: one.end.post(3, [1]), lambda: one.end.finish(3)):
                with self.assertRaises(OutOfOrder):
                    call()
            # What comes behind the close is dropped.
            self.assertEqual(two.end.receive(8, [0] * 100), [])
            self.assertEqual(two.end.stage(8), "drained")
            effects = two.end.finish(8)
            self.assertEqual([effect[:2] for effect in effects], [("bytes", 8), ("over", 8)])
            self.assertEqual((two.end.stage(8), two.end.links()), ("over", []))
            self.assertEqual(one.end.receive(3, effects[0][2]), [("whole", 3), ("over", 3)])
            self.assertEqual((one.end.stage(3), one.end.links()), ("over", []))
            self.assertEqual(one.end.fetch(3), [("message", 3, [4])])

    def test_both_before_anything_came(self):
        for suite in SUITES:
            one, two = ready_pair(suite)
            first, second = one.end.finish(3), two.end.finish(8)
            self.assertEqual(len(first) + len(second), 2)
            self.assertEqual(two.end.receive(8, first[0][2]), [("whole", 8), ("over", 8)])
            self.assertEqual(one.end.receive(3, second[0][2]), [("whole", 3), ("over", 3)])

    def test_behind_the_close(self):
        one, two = ready_pair(SMALL)
        close = one.end.finish(3)[0][2]
        self.assertEqual(two.end.receive(8, close + [0, 0, 0] + close), [("whole", 8)])

    def test_a_close_with_a_change_of_the_key(self):
        one, two = ready_pair(SMALL, limits=(9, 0, 2, 9, 4))
        two.end.receive(8, one.end.post(3, [])[0][2])
        effects = one.end.finish(3)
        self.assertEqual(len(effects), 1)
        self.assertEqual(two.end.receive(8, effects[0][2]), [("changed", 8), ("whole", 8)])

    def test_calls_in_each_stage(self):
        """Which calls raise OutOfOrder."""
        def shaking():
            party = Party(SMALL, 1)
            party.end.start(3)
            return party

        def stage(name):
            one, two = ready_pair(SMALL)
            if name == "finished":
                one.end.finish(3)
            if name == "drained":
                one.end.receive(3, two.end.finish(8)[0][2])
            if name == "over":
                one.end.cut_link(3)
            self.assertEqual(one.end.stage(3), name)
            return one

        expected = {"shaking": ("finish",), "ready": (), "finished": ("post", "finish"),
                    "drained": (), "over": ("post", "finish", "cut_link")}
        for name, wrong in expected.items():
            for word in ("post", "finish", "cut_link", "fetch", "receive"):
                party = shaking() if name == "shaking" else stage(name)
                call = getattr(party.end, word)
                arguments = (3, []) if word in ("post", "receive") else (3,)
                if word in wrong:
                    with self.assertRaises(OutOfOrder):
                        call(*arguments)
                    self.assertEqual(party.end.stage(3), name)
                else:
                    call(*arguments)
        end = Party(SMALL, 1).end
        for call in (lambda: end.post(3, []), lambda: end.finish(3), lambda: end.cut_link(3)):
            with self.assertRaises(OutOfOrder):
                call()


class Failing(HushCase):
    """The reasons behind the handshake."""

    def broken_frame(self, two, reason):
        """Bytes that let the receiver of ready connection fail for a reason."""
        sender = two.end.lines[8].sender
        suite, key = sender.suite, sender.key

        def sealed(number, record):
            size = len(record) + suite.tag_size
            head = [size // 256, size % 256]
            return head + suite.seal(key, number, head, record)

        if reason == "length":
            return [0, 1]
        if reason == "seal":
            return sealed(1, [1, 0, 0])
        if reason == "form":
            return sealed(0, [9, 0, 0])
        if reason == "order":
            return sealed(0, [4, 0, 8] + [1] * 8)
        return b"".join(bytes(sealed(number, [2, 64, 0] + [0] * 16384)) for number in range(65))

    def test_reasons_with_an_alarm(self):
        for reason in ("length", "seal", "form", "order", "size"):
            for drained in (False, True):
                one, two = ready_pair(SMALL)
                alarm = Sender(SMALL, one.end.lines[3].sender.key, limit=1000).alarm(1)
                data = list(self.broken_frame(two, reason))
                if drained:
                    # Nothing of the peer is read any more.
                    one.end.receive(3, two.end.finish(8)[0][2])
                    self.assertEqual(one.end.receive(3, data), [])
                    continue
                self.assertEqual(one.end.receive(3, data + [1, 2, 3]),
                                 [("bytes", 3, alarm), ("failed", 3, reason)])
                self.assertEqual(one.end.stage(3), "over")
                self.assertEqual(two.end.receive(8, alarm), [("failed", 8, "alarm")])

    def test_reasons_behind_finish(self):
        for reason in ("length", "seal", "form", "order", "size"):
            one, two = ready_pair(SMALL)
            data = list(self.broken_frame(two, reason))
            one.end.finish(3)
            self.assertEqual(one.end.receive(3, data), [("failed", 3, reason)])
            self.assertEqual(one.end.stage(3), "over")

    def test_an_alarm_of_the_peer(self):
        for code in (0, 1, 255):
            one, two = ready_pair(STANDARD)
            alarm = Sender(STANDARD, two.end.lines[8].sender.key).alarm(code)
            self.assertEqual(one.end.receive(3, alarm + [5]), [("failed", 3, "alarm")])
            self.assertEqual(one.end.links(), [])

    def test_an_alarm_with_a_change_of_the_key(self):
        one, two = ready_pair(SMALL, limits=(9, 0, 2, 9, 4))
        two.end.receive(8, one.end.post(3, [])[0][2])
        effects = one.end.receive(3, [0, 0])
        self.assertEqual(len(effects), 2)
        self.assertEqual(two.end.receive(8, effects[0][2]), [("changed", 8),
                                                             ("failed", 8, "alarm")])

    def test_what_waits_can_still_be_fetched(self):
        one, two = ready_pair(SMALL)
        data = two.end.post(8, [1])[0][2] + two.end.post(8, [2])[0][2]
        effects = one.end.receive(3, data + [0, 0])
        self.assertEqual([effect[0] for effect in effects], ["waits", "waits", "bytes", "failed"])
        self.assertEqual(one.end.fetch(3) + one.end.fetch(3) + one.end.fetch(3),
                         [("message", 3, [1]), ("message", 3, [2]), ("nothing", 3)])

    def test_cut_link(self):
        for stage in ("shaking", "ready", "finished", "drained"):
            one, two = ready_pair(SMALL)
            if stage == "shaking":
                one.end.cut_link(3)
                one.end.start(3)
            if stage == "finished":
                one.end.finish(3)
            if stage == "drained":
                one.end.receive(3, two.end.post(8, [1])[0][2])
                one.end.receive(3, two.end.finish(8)[0][2])
            self.assertEqual(one.end.stage(3), stage)
            self.assertEqual(one.end.cut_link(3), [("parted", 3)])
            self.assertEqual((one.end.stage(3), one.end.links()), ("over", []))
            self.assertEqual(one.end.receive(3, [0, 0, 0]), [])
            with self.assertRaises(OutOfOrder):
                one.end.cut_link(3)
            if stage == "drained":
                self.assertEqual(one.end.fetch(3), [("message", 3, [1])])

    def test_keys_are_dropped(self):
        """Point 197, as far as the objects show it."""
        for end_it in ("cut", "fail", "close"):
            one, two = ready_pair(SMALL)
            line = one.end.lines[3]
            keys = [line.sender.key, line.receiver.key]
            if end_it == "cut":
                one.end.cut_link(3)
            elif end_it == "fail":
                one.end.receive(3, [0, 0])
            else:
                one.end.finish(3)
                one.end.receive(3, two.end.finish(8)[0][2])
            self.assertEqual((line.sender, line.receiver, line.shaking), (None, None, None))
            self.assertEqual(len(keys), 2)


class Ticking(HushCase):
    def test_the_handshake(self):
        for suite in SUITES:
            for counts, failed in (((9,), False), ((10,), True), ((11,), True), ((1000000,), True),
                                   ((4, 5), False), ((4, 5, 1), True), ((9, 2), True)):
                for call in ("start", "answer"):
                    end = Party(suite, 1, limits=(10, 0, 9, 9, 4)).end
                    getattr(end, call)(3)
                    found = [effect for count in counts for effect in end.tick(count)]
                    self.assertEqual(found, [("failed", 3, "time")] if failed else [])
                    self.assertEqual(end.stage(3), "over" if failed else "shaking")

    def test_one_tick_is_what_is_not_given(self):
        end = Party(SMALL, 1, limits=(2, 0, 9, 9, 4)).end
        end.answer(3)
        self.assertEqual(end.tick(), [])
        self.assertEqual(end.tick(), [("failed", 3, "time")])
        self.assertEqual(end.tick(), [])

    def test_bytes_do_not_stop_the_time_of_a_handshake(self):
        one, two = parties(SMALL, "XX", limits=(10, 0, 9, 9, 4))
        two.end.answer(8)
        piece = one.end.start(3)[0][2]
        two.end.tick(9)
        two.end.receive(8, piece)
        self.assertEqual(two.end.tick(1), [("failed", 8, "time")])

    def test_silence(self):
        for limit in (0, 1, 10):
            one, two = ready_pair(SMALL, limits=(5, limit, 9, 9, 4))
            if limit == 0:
                self.assertEqual(one.end.tick(1000000), [])
                self.assertEqual(one.end.tick(1000000), [])
                self.assertEqual(one.end.stage(3), "ready")
                continue
            if limit > 1:
                self.assertEqual(one.end.tick(limit - 1), [])
            alarm = Sender(SMALL, one.end.lines[3].sender.key, limit=9).alarm(1)
            self.assertEqual(one.end.tick(1), [("bytes", 3, alarm), ("failed", 3, "time")])
            self.assertEqual(two.end.tick(limit + 1)[-1], ("failed", 8, "time"))

    def test_the_ticks_of_the_handshake_do_not_count(self):
        one, two = parties(SMALL, "XX", limits=(100, 10, 9, 9, 4))
        two.end.answer(8)
        one.tell(one.end.start(3))
        one.end.tick(99)
        two.end.tick(50)
        carry(one, two, 3, 8)
        for party in (one, two):
            self.assertEqual(party.end.tick(9), [])
            self.assertEqual(party.end.tick(1)[-1][2], "time")

    def test_what_counts_as_an_event(self):
        limits = (100, 10, 3, 99999, 4)
        for word in ("message", "changed", "posted", "piece", "half", "nothing", "closed"):
            one, two = ready_pair(SMALL, limits=limits)
            one.end.tick(9)
            counts = word in ("message", "changed", "closed")
            if word == "message":
                one.end.receive(3, two.end.post(8, [1])[0][2])
            elif word == "changed":
                sender = two.end.lines[8].sender
                one.end.receive(3, sender.change_key())
            elif word == "posted":
                one.end.post(3, [1])
            elif word == "piece":
                sender = two.end.lines[8].sender
                one.end.receive(3, sender.frame(2, [1]))
            elif word == "half":
                one.end.receive(3, two.end.post(8, [1])[0][2][:-1])
            elif word == "closed":
                one.end.receive(3, two.end.finish(8)[0][2])
            else:
                one.end.receive(3, [])
            effects = one.end.tick(1)
            self.assertEqual([effect[0] for effect in effects],
                             [] if counts else ["bytes", "failed"], word)
            if counts:
                self.assertEqual(one.end.tick(8), [])
                self.assertEqual(one.end.tick(1)[-1], ("failed", 3, "time"))

    def test_a_finished_connection(self):
        one, _ = ready_pair(SMALL, limits=(9, 10, 9, 9, 4))
        one.end.finish(3)
        self.assertEqual(one.end.tick(9), [])
        self.assertEqual(one.end.tick(1), [("failed", 3, "time")])

    def test_several_connections(self):
        end = Party(SMALL, 1, limits=(10, 0, 9, 9, 4)).end
        end.answer(7)
        end.tick(3)
        end.start(2)
        end.answer(900)
        self.assertEqual(end.tick(6), [])
        self.assertEqual(end.tick(1), [("failed", 7, "time")])
        self.assertEqual(end.links(), [2, 900])
        end.answer(5)
        self.assertEqual(end.tick(10), [("failed", 2, "time"), ("failed", 5, "time"),
                                        ("failed", 900, "time")])
        self.assertEqual(end.links(), [])


class Power(HushCase):
    """Points 180 and 190: what the store raises, and an end that is dead."""

    def assert_dead(self, end):
        for call in (lambda: end.start(50), lambda: end.answer(50), lambda: end.receive(3, []),
                     lambda: end.receive(50, []), lambda: end.post(3, []), lambda: end.fetch(3),
                     lambda: end.finish(3), lambda: end.cut_link(3), lambda: end.tick(1),
                     lambda: end.tick(), end.links, lambda: end.stage(3), end.public_key):
            for _ in range(2):
                with self.assertRaises(OutOfOrder):
                    call()

    def test_start(self):
        for suite in SUITES:
            for deeds in (0, 1, 2):
                party = Party(suite, 1)
                party.end.answer(3)
                party.disk.arm(deeds)
                if deeds < 2:
                    with self.assertRaises(PowerLost):
                        party.end.start(4)
                    self.assert_dead(party.end)
                else:
                    self.assertEqual(len(party.end.start(4)), 1)
                    # The next 15 numbers need no deed.
                    self.assertEqual(len(party.end.start(5)), 1)

    def test_errors_that_need_no_store_come_first(self):
        end = Party(SMALL, 1, patterns=("NK", "NN"), limits=(9, 0, 9, 9, 1)).end
        end.options.store.disk.arm(0)
        with self.assertRaises(Refused):
            end.start(3)
        end.answer(3)
        with self.assertRaises(OutOfOrder):
            end.start(3)
        with self.assertRaises(Refused):
            end.start(4)
        self.assertEqual(end.links(), [3])

    def test_the_first_frame(self):
        for suite in SUITES:
            piece = Plain(suite, "XX").pieces(0)[0]
            for deeds in (0, 1):
                party = Party(suite, 2)
                party.end.answer(3)
                party.disk.arm(deeds)
                self.assertEqual(party.end.receive(3, piece[:-1]), [])
                with self.assertRaises(PowerLost):
                    party.end.receive(3, piece[-1:])
                self.assert_dead(party.end)

    def test_first(self):
        for deeds in range(3):
            one, two = Party(SMALL, 1), Party(SMALL, 2, rule=("first",))
            two.end.answer(3, "ann")
            answer = two.end.receive(3, one.end.start(3)[0][2])
            last = one.end.receive(3, answer[0][2])[0][2]
            two.disk.arm(deeds)
            if deeds < 2:
                with self.assertRaises(PowerLost):
                    two.end.receive(3, last)
                self.assert_dead(two.end)
                self.assertEqual(two.store.names(), [])
            else:
                self.assertEqual(two.end.receive(3, last)[0][0], "ready")

    def test_a_full_bank(self):
        """The deeds of a call that packs the store: three, and two for the record."""
        for deeds in range(6):
            party = Party(SMALL, 1)
            size = 65536 - len(party.disk.read(0))
            for part in (size - 65535 + 8, 65535 - 8) if size > 65535 else (size,):
                party.disk.write(0, write_record(2, [1] * (part - 8)))
            party.disk.settle(0)
            store = Store(SMALL, party.disk)
            end = End(SMALL, store)
            party.disk.arm(deeds)
            if deeds < 5:
                with self.assertRaises(PowerLost):
                    end.start(4)
                self.assert_dead(end)
            else:
                self.assertEqual(len(end.start(4)), 1)

    def test_a_store_from_before_a_crash(self):
        for suite in SUITES:
            party = Party(suite, 1)
            party.end.answer(5)
            party.end.start(3)
            party.disk.crash(0, 0)
            # What needs no store goes on.
            self.assertEqual(party.end.links(), [3, 5])
            self.assertEqual(party.end.tick(1), [])
            self.assertEqual(party.end.answer(6), [])
            self.assertEqual(party.end.public_key(), public_of(suite, 1))
            with self.assertRaises(OutOfOrder):
                party.end.start(4)
            self.assert_dead(party.end)
            party = Party(suite, 2)
            party.end.answer(3)
            party.disk.crash(0, 0)
            with self.assertRaises(OutOfOrder):
                party.end.receive(3, Plain(suite, "XX").pieces(0)[0])
            self.assert_dead(party.end)

    def test_first_from_before_a_crash(self):
        for names in ({}, {"ann": 1}):
            one, two = Party(SMALL, 1), Party(SMALL, 2, names, rule=("first",))
            two.end.answer(3, "ann")
            answer = two.end.receive(3, one.end.start(3)[0][2])
            last = one.end.receive(3, answer[0][2])[0][2]
            two.disk.crash(0, 0)
            if names:
                # A key that is kept already needs no deed.
                self.assertEqual(two.end.receive(3, last)[0][0], "ready")
            else:
                with self.assertRaises(OutOfOrder):
                    two.end.receive(3, last)
                self.assert_dead(two.end)

    def fragile(self, opener):
        """A connection under the rule first, and one that goes on with it."""
        stores = [store_of(SMALL, number) for number in (1, 2)]
        lines = []
        for number, store in enumerate(stores):
            options = Options(SMALL, store, ("XX",), [], None, ("first",), (9, 0, 9, 9, 4))
            lines.append(Connection(options, 3, ("bob", "ann")[number], number == 0))
        if opener:
            return lines[0], lines[1]
        return lines[1], lines[0]

    def assert_stays(self, line, data, deeds):
        """Without power the call changes nothing; after a crash it does what it should."""
        disk = line.options.store.disk
        disk.arm(deeds)
        for _ in range(2):
            with self.assertRaises(PowerLost):
                line.receive(data)
            self.assertEqual(line.stage(), "shaking")
        disk.crash(0, 0)
        line.options.store = Store(SMALL, disk)
        return line.receive(data)

    def test_a_connection_stays_as_it_was(self):
        """Point 2: an error leaves the state as it was."""
        for cut in (0, 1, 4, 9):
            for deeds in (0, 1):
                line, other = self.fragile(opener=False)
                piece = other.begin()[0][2]
                line.receive(piece[:cut])
                answer = self.assert_stays(line, piece[cut:], deeds)
                effects = other.receive(answer[0][2])
                self.assertEqual([effect[0] for effect in effects], ["bytes", "ready"])
                last = effects[0][2]
                line.receive(last[:cut])
                effects = self.assert_stays(line, last[cut:] + other.post([7])[0][2], deeds)
                self.assertEqual(effects[0][:4], ("ready", 3, public_of(SMALL, 1), "ann"))
                self.assertEqual(effects[1:], [("waits", 3, 1)])

    def test_an_opener_stays_as_it_was(self):
        for deeds in (0, 1):
            line, other = self.fragile(opener=True)
            answer = other.receive(line.begin()[0][2])[0][2]
            line.post([8])
            effects = self.assert_stays(line, answer, deeds)
            self.assertEqual([effect[0] for effect in effects], ["bytes", "ready", "bytes"])
            self.assertEqual(effects[1][:4], ("ready", 3, public_of(SMALL, 2), "bob"))
            effects = other.receive(effects[0][2] + effects[2][2])
            self.assertEqual([effect[0] for effect in effects], ["ready", "waits"])

class Connections(HushCase):
    """The same, asked of the connections themselves."""

    def test_a_pair(self):
        for suite in SUITES:
            lines = []
            for number, name, opener in ((1, "bob", True), (2, "ann", False)):
                options = Options(suite, store_of(suite, number), ("XX",), [], None, ("any",),
                                  (5, 6, 9, 9, 4))
                lines.append(Connection(options, number, name, opener))
            one, two = lines
            with self.assertRaises(OutOfOrder):
                one.finish()
            plain = Plain(suite, "XX")
            effects = one.begin()
            self.assertEqual(effects, [("bytes", 1, plain.pieces(0)[0])])
            effects = two.receive(effects[0][2])
            self.assertEqual(effects, [("bytes", 2, plain.pieces(1)[0])])
            effects = one.receive(effects[0][2])
            self.assertEqual(effects, [("bytes", 1, plain.pieces(0)[1]),
                                       ("ready", 1, public_of(suite, 2), None, plain.hash)])
            self.assertEqual((one.stage(), two.stage()), ("ready", "shaking"))
            effects = two.receive(effects[0][2] + one.post([9])[0][2])
            self.assertEqual(effects, [("ready", 2, public_of(suite, 1), None, plain.hash),
                                       ("waits", 2, 1)])
            self.assertEqual(two.fetch(), [("message", 2, [9])])
            self.assertEqual(two.fetch(), [("nothing", 2)])
            close = one.finish()
            self.assertEqual(one.stage(), "finished")
            self.assertEqual(two.receive(close[0][2]), [("whole", 2)])
            self.assertEqual(two.stage(), "drained")
            self.assertEqual(two.tick(5), [])
            self.assertEqual(two.tick(1)[-1], ("failed", 2, "time"))
            self.assertEqual((two.stage(), two.tick(99), two.receive([1])), ("over", [], []))
            for call in (two.finish, two.cut_link, lambda: two.post([])):
                with self.assertRaises(OutOfOrder):
                    call()
            self.assertEqual(one.cut_link(), [("parted", 1)])
            self.assertEqual((one.stage(), one.receive([1, 2, 3]), one.tick(9)), ("over", [], []))

    def test_effects_are_their_own(self):
        one, two = parties(SMALL, "XX")
        two.end.answer(8, "ann")
        # Whatever is done to lists that were handed in or out, all goes on.
        effects = one.end.start(3, "bob")
        calls = [(two, 8), (one, 3), (two, 8)]
        for party, link in calls:
            piece = [effect[2] for effect in effects if effect[0] == "bytes"][0]
            given = list(piece)
            spoil(effects)
            effects = party.end.receive(link, given)
            spoil(given)
        self.assertEqual(effects[0][0], "ready")
        ready = effects[0]
        expected = list(ready[4])
        spoil(effects)
        self.assertEqual((one.end.stage(3), two.end.stage(8)), ("ready", "ready"))
        data = one.end.post(3, [4, 5])
        piece = list(data[0][2])
        spoil(data)
        self.assertEqual(two.end.receive(8, piece), [("waits", 8, 2)])
        self.assertEqual(two.end.fetch(8), [("message", 8, [4, 5])])
        self.assertEqual(len(expected), 16)


if __name__ == "__main__":
    unittest.main()
