import random
import unittest

from hushlink.catalog import pattern_named
from hushlink.handshake import Handshake
from hushlink.judge import broken, came, excused, partners, posted, ready, taken
from hushlink.net import Net
from hushlink.receiving import Receiver
from hushlink.rules import needs_peer, needs_secret
from hushlink.sending import Sender
from hushlink.suites import SmallSuite, StandardSuite
from hushlink.watch import clashes, coincidences, crossings, forgeries
from support import HushCase, some_bytes, spoil
from talking import PSK, first_piece, frame, public_of, secret_of, seed_of

STANDARD, SMALL = StandardSuite(), SmallSuite()
SUITES = (STANDARD, SMALL)
NAMES = ("ann", "bob", "cleo")
KEYS = [tuple(public_of(SMALL, number)) for number in range(4)]


def effect(wire, side, *parts):
    return ("effect", wire, side, (parts[0], 2 * wire + side) + parts[1:])


def was_ready(wire, side, transcript, key=None, name=None):
    return effect(wire, side, "ready", key, name, transcript)


class Written(Net):
    """A net whose trace and log the test has written. Its homes have the keys 0, 1 and 2."""

    def __init__(self, wires, trace, log=(), rules=(("any",),) * 3):
        homes = [(seed_of(SMALL, number), secret_of(SMALL, number), [], {"rule": rules[number]})
                 for number in range(3)]
        super().__init__(SMALL, homes)
        self.written = (wires, list(trace), list(log))

    def wires(self):
        return list(self.written[0])

    def trace(self):
        return list(self.written[1])

    def entries(self):
        return list(self.written[2])


T, U = (1, 2, 3), (4, 5, 6)


class Trace(HushCase):
    def test_what_is_taken_from_a_trace(self):
        trace = [("posted", 0, 0, (1,)), effect(0, 1, "waits", 1), effect(0, 0, "bytes", (9,)),
                 effect(0, 1, "message", (1,)), ("posted", 0, 1, ()), ("posted", 0, 0, (2, 3)),
                 effect(0, 1, "waits", 2), effect(1, 1, "waits", 2), ("error", 0, 1, "Refused"),
                 effect(0, 1, "nothing"), effect(1, 1, "message", (7,)), ("down", 0),
                 ("began", 0, 1), effect(0, 1, "message", (2, 3)), ("finished", 0, 1),
                 was_ready(0, 1, T, (8,), "ann"), was_ready(0, 1, U)]
        self.assertEqual(posted(trace, 0, 0), [(1,), (2, 3)])
        self.assertEqual(posted(trace, 0, 1), [()])
        self.assertEqual(posted(trace, 1, 0), [])
        self.assertEqual(taken(trace, 0, 1), [(1,), (2, 3)])
        self.assertEqual(taken(trace, 1, 1), [(7,)])
        self.assertEqual(taken(trace, 0, 0), [])
        self.assertEqual([came(trace, wire, side) for wire in (0, 1) for side in (0, 1)],
                         [0, 2, 0, 1])
        self.assertEqual(ready(trace, 0, 1), ("ready", 1, (8,), "ann", T))
        self.assertIsNone(ready(trace, 0, 0))
        self.assertIsNone(ready([], 0, 0))
        for function in (posted, taken, came, ready, partners):
            self.assert_keeps(function, trace, 0, 1)
        for function in (posted, taken):
            self.assert_fresh(function, trace, 0, 1)

    def test_partners(self):
        trace = [was_ready(3, 1, T), was_ready(0, 0, T), was_ready(0, 1, T), was_ready(2, 1, U),
                 was_ready(1, 1, T), was_ready(2, 0, T), was_ready(4, 0, U)]
        self.assertEqual(partners(trace, 0, 0), [(0, 1), (1, 1), (3, 1)])
        self.assertEqual(partners(trace, 1, 1), [(0, 0), (2, 0)])
        self.assertEqual(partners(trace, 2, 0), [(0, 1), (1, 1), (3, 1)])
        self.assertEqual(partners(trace, 2, 1), [(4, 0)])
        # Not ready, or alone.
        self.assertEqual(partners(trace, 4, 1), [])
        self.assertEqual(partners(trace, 9, 0), [])
        self.assertEqual(partners([was_ready(0, 0, T), was_ready(1, 0, T)], 0, 0), [])
        self.assertEqual(partners([], 0, 0), [])
        self.assert_fresh(partners, trace, 0, 0)


class Claims(HushCase):
    def check(self, trace, expected, **named):
        """The broken claims of a trace of a wire from the home 0 to the home 1, and another one."""
        net = Written([(0, 1), (0, 1), (2, 1)], trace, **named)
        self.assertEqual(broken(net), expected)
        spoil(broken(net))
        self.assertEqual(broken(net), expected)

    def both(self, *more, keys=(None, None)):
        return [was_ready(0, 0, T, keys[0]), was_ready(0, 1, T, keys[1])] + list(more)

    def test_nothing_happens(self):
        self.check([], [])
        self.check(self.both(), [])
        self.check([was_ready(0, 0, T)], [])
        # A side that was not ready has no claims.
        self.check([effect(0, 1, "message", (1,)), effect(0, 1, "whole")], [])

    def test_order(self):
        post, take = ("posted", 0, 0, (1,)), effect(0, 1, "message", (1,))
        waits = effect(0, 1, "waits", 1)
        order = [(0, 1, "order")]
        self.check(self.both(post, waits, take), [])
        self.check(self.both(post, waits), [])
        self.check(self.both(post), [])
        self.check(self.both(waits, take), order)
        self.check(self.both(waits), order)
        self.check(self.both(take), order)
        self.check(self.both(post, effect(0, 1, "message", (2,))), order)
        self.check(self.both(post, effect(0, 1, "message", ())), order)
        second = [("posted", 0, 0, (2,)), effect(0, 1, "message", (2,))]
        self.check(self.both(post, take, *second), [])
        self.check(self.both(post, second[0], second[1]), order)
        self.check(self.both(post, second[0], second[1], take), order)
        self.check(self.both(post, waits, waits, take), order)
        self.check(self.both(post, take, take), order)
        # The other way.
        self.check(self.both(("posted", 0, 1, (1,)), effect(0, 0, "message", (1,))), [])
        self.check(self.both(post, effect(0, 0, "message", (1,))), [(0, 0, "order")])

    def test_order_without_a_partner(self):
        order = [(0, 1, "order")]
        for other in ([], [was_ready(0, 0, U)], [was_ready(1, 1, T)]):
            trace = [was_ready(0, 1, T), ("posted", 0, 0, (1,))] + other
            self.check(trace, [])
            self.check(trace + [effect(0, 1, "waits", 1)], [])
            self.check(trace + [effect(0, 1, "message", (1,))], order)
            self.check(trace + [effect(0, 1, "whole")], order)

    def test_order_with_several_partners(self):
        trace = [was_ready(0, 1, T), was_ready(0, 0, T), was_ready(1, 0, T), was_ready(2, 0, T),
                 effect(0, 1, "message", (1,)), effect(0, 1, "waits", 1)]
        posts = [("posted", wire, 0, (1,)) for wire in range(3)]
        self.check(trace + posts, [])
        for place in range(3):
            self.check(trace + posts[:place] + posts[place + 1:], [(0, 1, "order")])

    def test_whole(self):
        post, waits, whole = ("posted", 0, 0, ()), effect(0, 1, "waits", 0), effect(0, 1, "whole")
        done = ("finished", 0, 0)
        claim = [(0, 1, "whole")]
        self.check(self.both(done, whole), [])
        self.check(self.both(post, waits, done, whole), [])
        self.check(self.both(whole), claim)
        self.check(self.both(("finished", 0, 1), whole), claim)
        self.check(self.both(("finished", 1, 0), whole), claim)
        self.check(self.both(post, done, whole), claim)
        self.check(self.both(post, post, waits, done, whole), claim)
        self.check(self.both(waits, done, whole), [(0, 1, "order"), (0, 1, "whole")])
        # Without the effect there is no claim.
        self.check(self.both(post, done), [])
        self.check(self.both(post, post, waits), [])
        # With several partners.
        trace = self.both(was_ready(1, 0, T), done, whole)
        self.check(trace, claim)
        self.check(trace + [("finished", 1, 0)], [])
        self.check(trace + [("finished", 1, 0), ("posted", 1, 0, ())], claim)

    def test_peer(self):
        for keys in ((None, None), (KEYS[1], None), (None, KEYS[0]), (KEYS[1], KEYS[0])):
            self.check(self.both(keys=keys), [])
        self.check(self.both(keys=(KEYS[0], KEYS[0])), [(0, 0, "peer")])
        self.check(self.both(keys=(KEYS[1], KEYS[1])), [(0, 1, "peer")])
        self.check(self.both(keys=(KEYS[2], ())), [(0, 0, "peer"), (0, 1, "peer")])
        # Without a partner nothing is known of its key.
        self.check([was_ready(0, 0, T, KEYS[2])], [])
        # The key is that of the home of each partner.
        self.check([was_ready(0, 1, T, KEYS[0]), was_ready(1, 0, T)], [])
        self.check([was_ready(0, 1, T, KEYS[0]), was_ready(2, 0, T)], [(0, 1, "peer")])
        self.check([was_ready(0, 1, T, KEYS[0]), was_ready(1, 0, T), was_ready(2, 0, T)],
                   [(0, 1, "peer")])

    def test_pinned(self):
        def rules(*numbers):
            return (("any",), ("pinned", [list(KEYS[number]) for number in numbers]), ("any",))
        trace = self.both(keys=(KEYS[1], KEYS[0]))
        self.check(trace, [], rules=rules(0))
        self.check(trace, [], rules=rules(3, 0))
        self.check(trace, [(0, 1, "peer")], rules=rules(1, 2))
        self.check(trace, [(0, 1, "peer")], rules=rules())
        # The rule of the other home does not matter.
        self.check(trace, [(0, 0, "peer")], rules=(("pinned", []), ("any",), ("any",)))
        # A peer that shows no key is none of the keys.
        self.check(self.both(), [(0, 1, "peer")], rules=rules(0))

    def test_several_claims_in_their_order(self):
        trace = [was_ready(1, 1, U, KEYS[2]), was_ready(1, 0, U, KEYS[2]),
                 effect(1, 1, "whole"), effect(1, 1, "message", (1,)), effect(1, 0, "waits", 1)]
        trace += self.both(effect(0, 1, "whole"), keys=(KEYS[2], None))
        self.check(trace, [(0, 0, "peer"), (0, 1, "whole"), (1, 0, "order"), (1, 0, "peer"),
                           (1, 1, "order"), (1, 1, "peer"), (1, 1, "whole")])


class Excuses(HushCase):
    def check(self, log, places):
        """These sides of the wires 0 and 1 are excused. The sides (0, 0) and (1, 1) are partners."""
        trace = [was_ready(0, 0, T), was_ready(1, 1, T), was_ready(0, 1, U)]
        net = Written([(0, 1), (0, 1)], trace, log)
        found = [(wire, side) for wire in (0, 1) for side in (0, 1) if excused(net, wire, side)]
        self.assertEqual(found, places)

    def test_forgeries(self):
        self.check([], [])
        for place in ((0, 0, 1), (2, 0, 1)):
            self.check([("open", place, (1,), 0, (), (2,))], [(0, 1)])
        # A forgery of a partner is no excuse.
        self.check([("open", (0, 0, 0), (1,), 0, (), (2,))], [(0, 0)])
        self.check([("open", (0, 1, 1), (1,), 0, (), (2,))], [(1, 1)])
        self.check([("open", (0, 1, 0), (1,), 0, (), (2,))], [(1, 0)])
        self.check([("open", (0, -1, 0), (1,), 0, (), (2,))], [])
        self.check([("seal", (0, 0, 0), (1,), 0, (), (2,)),
                    ("open", (0, 0, 1), (1,), 0, (), (2,))], [])

    def test_coincidences(self):
        label = tuple(b"Noise_x")
        self.check([("digest", (0, 0, 1), (1,), label)], [(0, 1)])
        # One of a partner is an excuse.
        self.check([("digest", (0, 0, 0), (1,), label)], [(0, 0), (1, 1)])
        self.check([("digest", (0, 1, 1), (1,), label)], [(0, 0), (1, 1)])
        self.check([("digest", (0, 1, 0), (1,), label)], [(1, 0)])
        self.check([("digest", (0, -1, 0), (1,), label)], [])
        self.check([("digest", (0, 0, 1), (1,), (5,)), ("digest", (0, 1, 0), (2,), (5,))],
                   [(0, 1), (1, 0)])

    def test_other_entries(self):
        crossing = [("exchange", (0, 0, 0), (1,), (2,), (3,)),
                    ("exchange", (0, 1, 0), (2,), (1,), (3,))]
        clash = [("seal", (0, 0, 0), (1,), 0, (), (2,))] * 2
        self.check(crossing + clash, [])


def home(suite, number, options):
    names = [(name, public_of(suite, place + 1)) for place, name in enumerate(NAMES)]
    return (seed_of(suite, number), secret_of(suite, number), names, options)


def shake(net, wire):
    """Carry the pieces of a wire in order until there are none."""
    while net.pieces(wire, 0) or net.pieces(wire, 1):
        for way in (0, 1):
            if net.pieces(wire, way):
                net.do(("deliver", wire, way, 0))


class Somebody:
    """Somebody with keys of their own who takes part in a wire for one of its sides."""

    def __init__(self, suite, name, side, **keys):
        self.suite, self.side, self.name = suite, side, name
        self.limit = keys.pop("limit", 1000)
        self.shaking = Handshake(suite, pattern_named(name), opener=side == 0, **keys)
        self.sender = self.receiver = None
        self.begun = False

    def turn(self, net, wire):
        """Take the pieces that the side would get, and send what comes next."""
        if not self.shaking.is_done() and self.shaking.writes_next():
            message = self.shaking.write([])
            piece = frame(message) if self.begun or self.side else first_piece(self.name, message)
            self.begun = True
            net.do(("make", wire, self.side, tuple(piece)))
        elif not self.shaking.is_done():
            pieces = net.pieces(wire, 1 - self.side)
            if pieces:
                piece = pieces[0]
                net.do(("drop", wire, 1 - self.side, 0))
                if self.side == 1 and not self.begun:
                    piece = piece[1 + piece[0]:]
                self.begun = True
                self.shaking.read(piece[2:])
        if self.shaking.is_done() and self.sender is None:
            first, second = self.shaking.split()
            own, other = (first, second) if self.side == 0 else (second, first)
            self.sender = Sender(self.suite, own, limit=self.limit)
            self.receiver = Receiver(self.suite, other, limit=self.limit)


class Driven(HushCase):
    """Claims in nets that the test drives."""

    def net(self, suite, name="XX", many=2, **options):
        options["patterns"] = (name,)
        return Net(suite, [home(suite, number + 1, options) for number in range(many)])

    def test_an_honest_carrier(self):
        for suite in SUITES:
            net = self.net(suite, rule=("names",))
            net.do(("open", 0, 1, "bob", "ann"))
            shake(net, 0)
            for data in ((), (1,), (2, 3)):
                net.do(("post", 0, 0, data))
            net.do(("finish", 0, 0))
            shake(net, 0)
            for _ in range(3):
                net.do(("fetch", 0, 1))
            net.do(("finish", 0, 1))
            shake(net, 0)
            self.assertEqual(taken(net.trace(), 0, 1), [(), (1,), (2, 3)])
            self.assertEqual(partners(net.trace(), 0, 0), [(0, 1)])
            self.assertEqual(broken(net), [])
            entries = net.entries()
            for found in (forgeries, coincidences, crossings, clashes):
                self.assertEqual(found(entries), [])
            for side in (0, 1):
                self.assertIs(excused(net, 0, side), False)

    def test_somebody_takes_part(self):
        """Under the rule any the answerer takes what somebody sends: broken, and excused."""
        for suite in SUITES:
            for side in (0, 1):
                net = self.net(suite, many=3)
                net.do(("open", 0, 1, None, None))
                net.do(("open", 0, 2, None, None))
                somebody = Somebody(suite, "XX", side, secret=some_bytes(suite.key_size, 77),
                                    ephemeral=some_bytes(suite.key_size, 78))
                if side == 0:
                    net.do(("drop", 0, 0, 0))
                while somebody.sender is None:
                    somebody.turn(net, 0)
                    for _ in net.pieces(0, side):
                        net.do(("deliver", 0, side, 0))
                net.do(("make", 0, side, tuple(somebody.sender.message([6, 6]))))
                net.do(("deliver", 0, side, 0))
                self.assertEqual(broken(net), [])
                net.do(("fetch", 0, 1 - side))
                self.assertEqual(taken(net.trace(), 0, 1 - side), [(6, 6)])
                self.assertEqual(broken(net), [(0, 1 - side, "order")])
                self.assertTrue(excused(net, 0, 1 - side))
                # The other connection is not touched.
                shake(net, 1)
                net.do(("post", 1, 0, (5,)))
                shake(net, 1)
                net.do(("fetch", 1, 1))
                self.assertEqual(broken(net), [(0, 1 - side, "order")])
                self.assertEqual([excused(net, *place) for place in ((1, 0), (1, 1))],
                                 [False, False])

    def test_wires_that_are_crossed(self):
        """The carrier joins the opener of one wire and the answerer of another one."""
        for suite in SUITES:
            net = self.net(suite, many=3)
            net.do(("open", 0, 1, None, None))
            net.do(("open", 2, 1, None, None))
            for way in (0, 1, 0):
                wire, other = (0, 1) if way == 0 else (1, 0)
                net.do(("carry", wire, way, len(net.pieces(wire, way)) - 1, other, way))
                net.do(("deliver", other, way, len(net.pieces(other, way)) - 1))
            self.assertEqual(partners(net.trace(), 0, 0), [(1, 1)])
            net.do(("post", 0, 0, (7,)))
            net.do(("carry", 0, 0, len(net.pieces(0, 0)) - 1, 1, 0))
            net.do(("deliver", 1, 0, len(net.pieces(1, 0)) - 1))
            net.do(("fetch", 1, 1))
            self.assertEqual(taken(net.trace(), 1, 1), [(7,)])
            self.assertEqual((broken(net), forgeries(net.entries())), ([], []))


class Changes(HushCase):
    """Points 110 and 111, in whole nets."""

    def run_net(self, name, deed=None, at=None):
        """Two homes shake hands and talk; before the delivery number at, the deed is done."""
        net = Net(SMALL, [home(SMALL, number, {"patterns": (name,)}) for number in (1, 2)])
        net.do(("open", 0, 1, "bob", "ann"))
        count = 0
        while net.pieces(0, 0) or net.pieces(0, 1):
            for way in (0, 1):
                if net.pieces(0, way):
                    if count == at:
                        net.do(deed)
                    net.do(("deliver", 0, way, 0))
                    count += 1
        for side in (0, 1):
            net.do(("post", 0, side, (4, 5)))
            net.do(("finish", 0, side))
        shake(net, 0)
        for side in (0, 1):
            net.do(("fetch", 0, side))
        return net

    def test_nothing_is_changed(self):
        for name in ("NN", "XX", "IK", "X1K1"):
            net = self.run_net(name)
            trace = net.trace()
            self.assertEqual((partners(trace, 0, 0), partners(trace, 0, 1)), ([(0, 1)], [(0, 0)]))
            self.assertEqual((taken(trace, 0, 0), taken(trace, 0, 1)), ([(4, 5)], [(4, 5)]))
            self.assertEqual([entry for entry in trace if entry[3:] == (("over", entry[2]),)],
                             [effect(0, 1, "over"), effect(0, 0, "over")])

    def test_each_byte_of_a_handshake(self):
        for name, lengths in (("NN", (21, 26)), ("XX", (21, 50, 34)), ("IK", (53, 26))):
            for at, length in enumerate(lengths):
                for place in range(length):
                    probe = Net(SMALL, [home(SMALL, number, {"patterns": (name,)})
                                        for number in (1, 2)])
                    probe.do(("open", 0, 1, "bob", "ann"))
                    for way in (0, 1, 0)[:at]:
                        probe.do(("deliver", 0, way, 0))
                    piece = probe.pieces(0, at % 2)[0]
                    deed = ("change", 0, at % 2, 0, place, piece[place] ^ (1 + place % 7))
                    net = self.run_net(name, deed, at)
                    trace = net.trace()
                    self.assertEqual(len(piece), length)
                    self.assertEqual(partners(trace, 0, 0) + partners(trace, 0, 1), [])
                    self.assertEqual(taken(trace, 0, 0) + taken(trace, 0, 1), [])
                    self.assertEqual((broken(net), forgeries(net.entries())), ([], []))


class Drawn(HushCase):
    """Point 221: whatever is done, each broken claim is about an excused side."""

    def assert_excused(self, net):
        claims = broken(net)
        for wire, side, claim in claims:
            self.assertTrue(excused(net, wire, side), (wire, side, claim))
        entries = net.entries()
        if clashes(entries):
            self.assertTrue(coincidences(entries) or crossings(entries))
        # Point 160: no number is used twice for an ephemeral secret.
        label = tuple(b"hushlink ephemeral")
        made = [(entry[1][0], entry[3]) for entry in entries
                if entry[0] == "keyed" and entry[3][:len(label)] == label]
        self.assertEqual(len(made), len(set(made)))
        return claims

    def drawn_net(self, drawn, suite, names):
        rules = [("any",), ("any",), ("names",), ("first",),
                 ("pinned", [public_of(suite, 1), public_of(suite, 3)]), ("nobody",)]
        records = drawn.choice((2, 3, 5, 1000))
        homes = []
        for number in range(1, drawn.randrange(2, 5)):
            options = {"patterns": tuple(drawn.sample(names, min(len(names), 3))),
                       "rule": drawn.choice(rules),
                       "limits": (50, drawn.choice((0, 40)), records, 20, 9)}
            if any("psk" in name for name in options["patterns"]):
                options["psk"] = list(PSK)
            homes.append(home(suite, number, options))
        return Net(suite, homes), len(homes), records

    def somebody(self, drawn, suite, names, records):
        """Somebody who knows the psk, and the secret key of one of the homes or none of them."""
        name, side = drawn.choice(names), drawn.randrange(2)
        pattern = pattern_named(name)
        keys = {"ephemeral": some_bytes(suite.key_size, drawn.randrange(9)), "limit": records}
        keys["psk"] = PSK if "psk" in name else None
        if needs_secret(pattern, opener=side == 0):
            keys["secret"] = secret_of(suite, drawn.choice((1, 2, 3, 77)))
        if needs_peer(pattern, opener=side == 0):
            keys["peer"] = public_of(suite, drawn.choice((1, 2, 3)))
        return Somebody(suite, name, side, **keys)

    def one_deed(self, drawn, net, many):
        wires = len(net.wires())
        wire, way = drawn.randrange(max(1, wires)), drawn.randrange(2)
        count = len(net.pieces(wire, way))
        index = drawn.randrange(max(1, count))
        word = drawn.choice(("open", "deliver", "deliver", "deliver", "deliver", "deliver", "post",
                             "post", "fetch", "finish", "tick", "odd", "carrier"))
        if word == "open" and wires < 5:
            names = NAMES + (None,)
            return ("open", drawn.randrange(many), drawn.randrange(many), drawn.choice(names),
                    drawn.choice(names))
        if word == "deliver":
            return (word, wire, way, 0 if drawn.randrange(9) else index)
        if word == "post":
            return (word, wire, way, tuple(some_bytes(drawn.randrange(9))))
        if word == "tick":
            return (word, drawn.randrange(many), drawn.randrange(1, 4))
        if word == "odd":
            place = drawn.randrange(many)
            return drawn.choice((("power", place, drawn.randrange(4)), ("break", wire, way),
                                 ("crash", place, drawn.randrange(40), drawn.randrange(3))))
        if word == "carrier":
            length = len(net.pieces(wire, way)[index]) if count else 1
            place = drawn.randrange(length)
            other = drawn.randrange(max(1, wires)), drawn.randrange(2)
            return drawn.choice((("drop", wire, way, index), ("repeat", wire, way, index),
                                 ("move", wire, way, index, 0), ("split", wire, way, index, place),
                                 ("join", wire, way, index), ("carry", wire, way, index) + other,
                                 ("carry", wire, way, index) + other,
                                 ("carry", wire, way, index, other[0], way),
                                 ("change", wire, way, index, place, drawn.randrange(256))))
        return (word if word in ("fetch", "finish") else "fetch", wire, way)

    def run_net(self, drawn, suite, names, deeds):
        net, many, records = self.drawn_net(drawn, suite, names)
        somebodies = {}
        for _ in range(deeds):
            net.do(self.one_deed(drawn, net, many))
            wires = len(net.wires())
            if wires and drawn.randrange(2) == 0:
                wire = drawn.randrange(wires)
                if wire not in somebodies and drawn.randrange(3) == 0:
                    somebodies[wire] = self.somebody(drawn, suite, names, records)
                if wire in somebodies:
                    self.take_turn(drawn, net, wire, somebodies[wire])
        return net

    def take_turn(self, drawn, net, wire, somebody):
        try:
            somebody.turn(net, wire)
            if somebody.sender is not None:
                data = somebody.sender.message(some_bytes(drawn.randrange(5)))
                if drawn.randrange(5) == 0:
                    data += somebody.sender.close()
                net.do(("make", wire, somebody.side, tuple(data)))
            if drawn.randrange(9):
                net.do(("deliver", wire, somebody.side, len(net.pieces(wire, somebody.side)) - 1))
            net.do(("fetch", wire, 1 - somebody.side))
        except ValueError:
            # Somebody's handshake or sender can not go on.
            pass

    def test_drawn_nets(self):
        drawn = random.Random(99)
        names = ["XX", "NN", "IK", "KK", "NK", "XN", "NX", "IX1", "KN", "X1X1", "NNpsk0", "XXpsk3"]
        seen = {"broken": 0, "ready": 0, "taken": 0, "forged": 0, "whole": 0}
        for turn in range(250):
            some = drawn.sample(names, drawn.choice((1, 1, 2, 3)))
            net = self.run_net(drawn, SMALL, some, 150)
            claims = self.assert_excused(net)
            seen["broken"] += len(claims)
            seen["forged"] += len(forgeries(net.entries()))
            effects = [entry[3][0] for entry in net.trace() if entry[0] == "effect"]
            for word, kind in (("ready", "ready"), ("taken", "message"), ("whole", "whole")):
                seen[word] += effects.count(kind)
        # All this has come up.
        self.assertGreater(min(seen.values()), 10, seen)

    def test_drawn_nets_of_the_standard_suite(self):
        drawn = random.Random(5)
        for _ in range(3):
            self.assert_excused(self.run_net(drawn, STANDARD, ["XX", "NN", "IK"], 80))

    def test_clashes_and_crossings(self):
        """Two openers whose messages the carrier swaps make the same exchange from both ends."""
        net = Net(SMALL, [home(SMALL, number, {"patterns": ("KK",)}) for number in (1, 2)])
        net.do(("open", 0, 1, "bob", "ann"))
        net.do(("open", 1, 0, "ann", "bob"))
        entries = net.entries()
        self.assertEqual(len(crossings(entries)), 2)
        self.assert_excused(net)


if __name__ == "__main__":
    unittest.main()
