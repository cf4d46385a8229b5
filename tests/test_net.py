import copy
import random
import unittest

from hushlink.errors import (Exhausted, HushError, Malformed, OutOfOrder, OutOfRange, PowerLost,
                             Refused)
from hushlink.ends import End
from hushlink.net import Net
from hushlink.store import Store
from hushlink.suites import SmallSuite, StandardSuite
from support import HushCase, some_bytes, spoil
from talking import PSK, Plain, public_of, secret_of, seed_of, store_of

STANDARD, SMALL = StandardSuite(), SmallSuite()
SUITES = (STANDARD, SMALL)
NAMES = ("ann", "bob", "cleo")


def home(suite, number, **options):
    """A home that knows the keys of the homes 1 to 3 by name."""
    names = [(name, public_of(suite, place + 1)) for place, name in enumerate(NAMES)]
    return (seed_of(suite, number), secret_of(suite, number), names, options)


def net_of(suite=SMALL, many=2, **options):
    return Net(suite, [home(suite, number + 1, **options) for number in range(many)])


def ready_net(suite=SMALL, name="XX", many=2, **options):
    """A net with a wire 0 from the home 0 to the home 1 that is ready."""
    net = net_of(suite, many, patterns=(name,), **options)
    net.do(("open", 0, 1, "bob", "ann"))
    way = 0
    while net.pieces(0, way):
        net.do(("deliver", 0, way, 0))
        way = 1 - way
    assert net.end(0).stage(0) == net.end(1).stage(1) == "ready"
    return net


def effects(entries):
    return [entry[3] for entry in entries if entry[0] == "effect"]


def frozen(effect):
    return tuple(tuple(part) if isinstance(part, list) else part for part in effect)


class NetCase(HushCase):
    def assert_nothing(self, net, *deeds):
        """These deeds do nothing."""
        before = self.seen(net)
        for deed in deeds:
            self.assertEqual(net.do(deed), [], deed)
            self.assertEqual(self.seen(net), before, deed)

    def seen(self, net):
        """All that a net shows."""
        wires = range(len(net.wires()))
        pieces = [net.pieces(wire, way) for wire in wires for way in (0, 1)]
        homes = range(len(net.homes))
        ends = [[(link, net.end(place).stage(link)) for link in net.end(place).links()]
                for place in homes if not net.is_down(place)]
        return (net.trace(), net.entries(), pieces, net.wires(), ends,
                [net.is_down(place) for place in homes])

    def pieces_net(self, *pieces):
        """A net whose way 0 of wire 1 has these pieces, and all others are empty."""
        net = net_of()
        for wire in range(2):
            net.do(("open", 0, 1, None, None))
            net.do(("drop", wire, 0, 0))
        for piece in pieces:
            self.assertEqual(net.do(("make", 1, 0, tuple(piece))), [])
        self.assertEqual(net.pieces(1, 0), [list(piece) for piece in pieces])
        return net

    def assert_pieces(self, net, *pieces):
        self.assertEqual(net.pieces(1, 0), [list(piece) for piece in pieces])
        self.assertEqual((net.pieces(0, 0), net.pieces(0, 1), net.pieces(1, 1)), ([], [], []))


class Constructor(NetCase):
    def test_homes(self):
        for suite in SUITES:
            net = net_of(suite, 3)
            self.assertEqual((net.trace(), net.wires(), net.entries()), ([], [], []))
            for number in range(3):
                self.assertEqual(net.public_key(number), public_of(suite, number + 1))
                self.assertIs(net.is_down(number), False)
                self.assertIsInstance(net.end(number), End)
                self.assertEqual(net.end(number).links(), [])

    def test_numbers_of_homes(self):
        self.assert_out_of_range(Net, SMALL, [])
        for many in (1, 8):
            self.assertEqual(len(net_of(many=many).homes), many)
        self.assert_out_of_range(Net, SMALL, [home(SMALL, number) for number in range(9)])

    def test_errors(self):
        one, two = home(SMALL, 1), home(SMALL, 2)
        for homes in ([one, one], [one, (one[0],) + two[1:]], [two, one, (one[0],) + two[1:]]):
            with self.assertRaises(Malformed):
                Net(SMALL, homes)
        # The same secret key is allowed.
        Net(SMALL, [one, (two[0],) + one[1:]])
        limits = {"limits": (100, 0, 999, 65536, 4)}
        for homes in ([one, two[:3] + (limits,)], [one[:3] + (limits,), two],
                      [one, two, home(SMALL, 3, **limits)]):
            with self.assertRaises(Malformed):
                Net(SMALL, homes)
        # Only this limit must be the same, and what is missing has its default.
        Net(SMALL, [one[:3] + (limits,), two[:3] + (limits,)])
        Net(SMALL, [one, two[:3] + ({"limits": (1, 2, 1000, 4, 5)},)])
        # It is checked before the homes are made.
        with self.assertRaises(Malformed):
            Net(SMALL, [one[:2] + ([("Ann", [])], {}), one])
        self.assert_out_of_range(Net, SMALL, [one] * 9)

    def test_errors_of_what_it_calls(self):
        seed, secret, names, _ = home(SMALL, 1)
        key = public_of(SMALL, 1)
        many = [("n" + str(number), key) for number in range(65)]
        wrong = ((OutOfRange, (seed[1:], secret, names, {})),
                 (OutOfRange, (seed, secret + [0], names, {})),
                 (Malformed, (seed, secret, [("Ann", key)], {})),
                 (OutOfRange, (seed, secret, [("ann", key[1:])], {})),
                 (Malformed, (seed, secret, [("ann", [0] * 16)], {})),
                 (Refused, (seed, secret, [("ann", key), ("ann", public_of(SMALL, 2))], {})),
                 (Exhausted, (seed, secret, many, {})),
                 (Malformed, (seed, secret, [], {"patterns": ("zz",)})),
                 (Refused, (seed, None, [], {})),
                 (Refused, (seed, secret, [], {"psk": PSK})),
                 (OutOfRange, (seed, secret, [], {"rule": ("all",)})),
                 (OutOfRange, (seed, secret, [], {"limits": (0, 0, 1000, 0, 1)})),
                 (OutOfRange, (seed, secret, [], {"limits": (1, 0)})),
                 (OutOfRange, (seed, secret, [], {"patterns": ()})))
        for error, one in wrong:
            with self.assertRaises(error):
                Net(SMALL, [one])
        Net(SMALL, [(seed, secret, [("ann", key), ("ann", key)] + many[:63], {})])
        self.assert_out_of_range(Net, SMALL, [home(SMALL, 1)], prologue=[0] * 1025)

    def test_options_and_prologue(self):
        for prologue in ((), [], [1, 2, 3]):
            homes = [home(SMALL, number, patterns=("NNpsk0", "XX"), psk=list(PSK))
                     for number in (1, 2)]
            net = Net(SMALL, homes, prologue=prologue)
            plain = Plain(SMALL, "NNpsk0", list(prologue), PSK)
            entries = net.do(("open", 0, 1, None, None))
            self.assertEqual(effects(entries), [("bytes", 0, tuple(plain.pieces(0)[0]))])
            entries = net.do(("deliver", 0, 0, 0))
            self.assertEqual(effects(entries)[0], ("bytes", 1, tuple(plain.pieces(1)[0])))

    def test_a_home_without_a_secret(self):
        net = Net(SMALL, [(seed_of(SMALL, 1), None, [], {"patterns": ("NN",)})])
        self.assertIsNone(net.public_key(0))

    def test_lists_are_their_own(self):
        key = public_of(SMALL, 2)
        homes = [(seed_of(SMALL, 1), secret_of(SMALL, 1), [("bob", key)],
                  {"patterns": ("NNpsk0",), "psk": list(PSK), "rule": ("pinned", [list(key)])}),
                 (seed_of(SMALL, 2), secret_of(SMALL, 2), [], {"patterns": ("NNpsk0",),
                                                               "psk": list(PSK)})]
        prologue = [1, 2]
        before = copy.deepcopy((homes, prologue))
        nets = [Net(SMALL, homes, prologue=prologue), Net(SMALL, copy.deepcopy(homes),
                                                          prologue=list(prologue))]
        self.assertEqual((homes, prologue), before)
        spoil(prologue)
        for one in homes:
            spoil(one)
            one[3].clear()
        homes.clear()
        deeds = (("open", 0, 1, None, None), ("crash", 0, 0, 0), ("open", 0, 1, None, None),
                 ("deliver", 1, 0, 0))
        for deed in deeds:
            self.assertEqual(nets[0].do(deed), nets[1].do(deed))
        for _ in range(2):
            self.assertEqual(nets[0].home_rule(0), ("pinned", [public_of(SMALL, 2)]))
            spoil(nets[0].home_rule(0))


class Carrier(NetCase):
    def test_way_and_wire(self):
        """Each deed with a wire, a way or a piece that is not there."""
        rest = {"deliver": (), "drop": (), "repeat": (), "move": (0,), "split": (1,), "join": (),
                "change": (0, 7), "carry": (0, 1)}
        net = self.pieces_net([1, 2], [3, 4])
        for word, more in rest.items():
            wrong = [(2, 0, 0), (-1, 0, 0), (16, 0, 0), (1, 2, 0), (1, -1, 0), (1, 0, 2),
                     (1, 0, -1), (1, 1, 0), (0, 0, 0), (0, 1, 0)]
            self.assert_nothing(net, *[(word,) + places + more for places in wrong])

    def test_deliver(self):
        for way, side in ((0, 1), (1, 0)):
            net = ready_net()
            data = net.do(("post", 0, 1 - side, (1, 2)))[1][3][2]
            net.do(("make", 0, way, (0, 0)))
            entries = net.do(("deliver", 0, way, 0))
            self.assertEqual(entries, [("effect", 0, side, ("waits", side, 2))])
            self.assertEqual(net.pieces(0, way), [[0, 0]])
            self.assertEqual(len(data), 15)
        # Any piece of the way.
        net = ready_net()
        net.do(("make", 0, 0, (0,)))
        net.do(("post", 0, 0, (1, 2)))
        self.assertEqual(net.do(("deliver", 0, 0, 1)), [("effect", 0, 1, ("waits", 1, 2))])
        self.assertEqual(net.pieces(0, 0), [[0]])

    def test_deliver_to_a_link_without_a_connection(self):
        net = self.pieces_net([1, 2])
        net.do(("break", 1, 1))
        self.assertEqual(net.do(("deliver", 1, 0, 0)), [])
        self.assertEqual(net.pieces(1, 0), [])

    def test_drop(self):
        net = self.pieces_net([1], [2], [3])
        self.assertEqual(net.do(("drop", 1, 0, 1)), [])
        self.assert_pieces(net, [1], [3])
        net.do(("drop", 1, 0, 1))
        net.do(("drop", 1, 0, 0))
        self.assert_pieces(net)

    def test_repeat(self):
        net = self.pieces_net([1], [2, 5], [3])
        self.assertEqual(net.do(("repeat", 1, 0, 1)), [])
        self.assert_pieces(net, [1], [2, 5], [2, 5], [3])
        # It is a copy.
        net.do(("change", 1, 0, 1, 0, 9))
        self.assert_pieces(net, [1], [9, 5], [2, 5], [3])
        net.do(("change", 1, 0, 2, 1, 8))
        self.assert_pieces(net, [1], [9, 5], [2, 8], [3])
        net.do(("repeat", 1, 0, 3))
        self.assert_pieces(net, [1], [9, 5], [2, 8], [3], [3])

    def test_move(self):
        for index in range(4):
            for target in range(4):
                net = self.pieces_net([1], [2], [3], [4])
                self.assertEqual(net.do(("move", 1, 0, index, target)), [])
                rest = [[1], [2], [3], [4]]
                rest.insert(target, rest.pop(index))
                self.assert_pieces(net, *rest)
                self.assertEqual(net.pieces(1, 0)[target], [index + 1])
        self.assert_nothing(net, ("move", 1, 0, 0, 4), ("move", 1, 0, 0, -1), ("move", 1, 0, 4, 0))

    def test_split(self):
        net = self.pieces_net([1], [2, 3, 4])
        self.assert_nothing(net, ("split", 1, 0, 0, 0), ("split", 1, 0, 0, 1), ("split", 1, 0, 1, 0),
                            ("split", 1, 0, 1, 3), ("split", 1, 0, 1, -1), ("split", 1, 0, 1, 4))
        self.assertEqual(net.do(("split", 1, 0, 1, 1)), [])
        self.assert_pieces(net, [1], [2], [3, 4])
        net = self.pieces_net([2, 3, 4], [1])
        net.do(("split", 1, 0, 0, 2))
        self.assert_pieces(net, [2, 3], [4], [1])

    def test_join(self):
        net = self.pieces_net([1], [2, 3], [4])
        self.assert_nothing(net, ("join", 1, 0, 2))
        self.assertEqual(net.do(("join", 1, 0, 1)), [])
        self.assert_pieces(net, [1], [2, 3, 4])
        net.do(("join", 1, 0, 0))
        self.assert_pieces(net, [1, 2, 3, 4])
        self.assert_nothing(net, ("join", 1, 0, 0))
        net = self.pieces_net([1] * 40000, [2] * 25537, [3])
        net.do(("join", 1, 0, 0))
        self.assert_pieces(net, [1] * 40000 + [2] * 25537, [3])
        self.assert_nothing(net, ("join", 1, 0, 0))
        net.do(("drop", 1, 0, 1))

    def test_change(self):
        net = self.pieces_net([1], [2, 3])
        self.assert_nothing(net, ("change", 1, 0, 1, 2, 5), ("change", 1, 0, 1, -1, 5),
                            ("change", 1, 0, 1, 0, 256), ("change", 1, 0, 1, 0, -1))
        self.assertEqual(net.do(("change", 1, 0, 1, 1, 255)), [])
        net.do(("change", 1, 0, 0, 0, 0))
        self.assert_pieces(net, [0], [2, 255])

    def test_what_was_sent_is_not_what_the_trace_has(self):
        net = net_of()
        entry = net.do(("open", 0, 1, None, None))[0]
        net.do(("change", 0, 0, 0, 0, 77))
        self.assertEqual(net.trace(), [entry])
        self.assertEqual(net.pieces(0, 0)[0][0], 77)

    def test_carry(self):
        net = self.pieces_net([1], [2, 3])
        self.assert_nothing(net, ("carry", 1, 0, 1, 2, 0), ("carry", 1, 0, 1, -1, 0),
                            ("carry", 1, 0, 1, 0, 2), ("carry", 1, 0, 1, 0, -1),
                            ("carry", 1, 0, 2, 0, 0), ("carry", 1, 0, -1, 0, 0))
        self.assertEqual(net.do(("carry", 1, 0, 1, 0, 1)), [])
        self.assertEqual((net.pieces(1, 0), net.pieces(0, 1)), ([[1], [2, 3]], [[2, 3]]))
        net.do(("carry", 1, 0, 0, 0, 1))
        # Back to its sender, and to the end of its own way.
        net.do(("carry", 1, 0, 0, 1, 1))
        net.do(("carry", 1, 0, 0, 1, 0))
        self.assertEqual((net.pieces(1, 0), net.pieces(1, 1)), ([[1], [2, 3], [1]], [[1]]))
        self.assertEqual((net.pieces(0, 0), net.pieces(0, 1)), ([], [[2, 3], [1]]))
        # It is a copy.
        net.do(("change", 0, 1, 0, 0, 9))
        self.assertEqual(net.pieces(1, 0)[1], [2, 3])

    def test_make(self):
        net = self.pieces_net()
        self.assert_nothing(net, ("make", 2, 0, (1,)), ("make", -1, 0, (1,)), ("make", 0, 2, (1,)),
                            ("make", 0, -1, (1,)), ("make", 1, 0, ()),
                            ("make", 1, 0, (1,) * 65538))
        for size in (1, 65537):
            self.assertEqual(net.do(("make", 1, 0, (7,) * size)), [])
        self.assert_pieces(net, [7], [7] * 65537)
        net.do(("make", 1, 1, (5,)))
        self.assertEqual(net.pieces(1, 1), [[5]])

    def test_what_is_no_deed(self):
        net = self.pieces_net([1, 2])
        self.assert_nothing(net, (), ("",), ("Drop", 1, 0, 0), ("drop",), ("drop", 1, 0),
                            ("drop", 1, 0, 0, 0), ("fetch", 0), ("nothing", 1, 0, 0), ("open", 0, 1))

    def test_drawn_deeds(self):
        drawn = random.Random(4)
        for _ in range(50):
            net, ways = self.pieces_net(), {(wire, way): [] for wire in (0, 1) for way in (0, 1)}
            for _ in range(60):
                word = drawn.choice(("make", "drop", "repeat", "move", "split", "join", "change",
                                     "carry", "make", "repeat"))
                wire, way, index, one = [drawn.randrange(-1, 4) for _ in range(4)]
                byte = drawn.randrange(256)
                data = tuple(drawn.randrange(256) for _ in range(drawn.randrange(4)))
                pieces = ways.get((wire, way))
                there = pieces is not None and 0 <= index < len(pieces)
                if word == "make":
                    net.do((word, wire, way, data))
                    if pieces is not None and data:
                        pieces.append(list(data))
                elif word == "carry":
                    net.do((word, wire, way, index, one, byte % 3))
                    target = ways.get((one, byte % 3))
                    if there and target is not None:
                        target.append(list(pieces[index]))
                else:
                    more = {"drop": (), "repeat": (), "join": (), "move": (one,), "split": (one,),
                            "change": (one, byte)}[word]
                    net.do((word, wire, way, index) + more)
                    if there and word == "drop":
                        pieces.pop(index)
                    if there and word == "repeat":
                        pieces.insert(index + 1, list(pieces[index]))
                    if there and word == "move" and 0 <= one < len(pieces):
                        pieces.insert(one, pieces.pop(index))
                    if there and word == "split" and 1 <= one < len(pieces[index]):
                        piece = pieces.pop(index)
                        pieces.insert(index, piece[one:])
                        pieces.insert(index, piece[:one])
                    if there and word == "join" and index + 1 < len(pieces):
                        pieces[index] = pieces[index] + pieces.pop(index + 1)
                    if there and word == "change" and 0 <= one < len(pieces[index]):
                        pieces[index][one] = byte
                self.assertEqual({place: net.pieces(*place) for place in ways}, ways)


class Users(NetCase):
    def test_open(self):
        for suite in SUITES:
            net = net_of(suite, 3, patterns=("XX",))
            entries = net.do(("open", 2, 0, "ann", "cleo"))
            store = store_of(suite, 3)
            data = [2, 88, 88, 0, suite.key_size] + suite.public(store.fresh())
            self.assertEqual(entries, [("effect", 0, 0, ("bytes", 0, tuple(data)))])
            self.assertEqual(net.wires(), [(2, 0)])
            self.assertEqual((net.pieces(0, 0), net.pieces(0, 1)), ([data], []))
            self.assertEqual((net.end(2).links(), net.end(0).links()), ([0], [1]))
            entries = net.do(("open", 1, 2, None, None))
            self.assertEqual([entry[:3] + entry[3][:2] for entry in entries],
                             [("effect", 1, 0, "bytes", 2)])
            self.assertEqual(net.wires(), [(2, 0), (1, 2)])
            self.assertEqual((net.end(1).links(), net.end(2).links()), ([2], [0, 3]))

    def test_open_passes_the_names(self):
        """The opener's name is that of the home that answers, and the other way round."""
        homes = [home(SMALL, 1, patterns=("KK",)), home(SMALL, 2, patterns=("KK",))]
        for name, expected, ready in (("bob", "ann", True), ("cleo", "ann", False),
                                      ("bob", "cleo", False)):
            net = Net(SMALL, homes)
            net.do(("open", 0, 1, name, expected))
            entries = net.do(("deliver", 0, 0, 0))
            self.assertEqual(effects(entries)[-1][0] == "ready", ready)
        net = Net(SMALL, homes)
        net.do(("open", 0, 1, "bob", None))
        self.assertEqual(effects(net.do(("deliver", 0, 0, 0))), [("failed", 1, "peer")])

    def test_open_with_what_is_not_there(self):
        net = net_of(many=2)
        self.assert_nothing(net, ("open", 2, 0, None, None), ("open", 0, 2, None, None),
                            ("open", -1, 0, None, None), ("open", 0, -1, None, None),
                            ("open", 0, 1, "Ann", None), ("open", 0, 1, None, "Ann"),
                            ("open", 0, 1, "", None), ("open", 0, 1, None, "a" * 33),
                            ("open", 0, 1, "a" * 33, None), ("open", 0, 1, 5, None))
        net.do(("open", 0, 1, "a" * 32, "-"))
        self.assertEqual(net.wires(), [(0, 1)])

    def test_the_most_wires(self):
        net = net_of(limits=(100, 0, 1000, 65536, 16))
        for number in range(16):
            self.assertEqual(len(net.do(("open", 0, 1, None, None))), 1)
        self.assert_nothing(net, ("open", 0, 1, None, None), ("open", 1, 0, None, None))
        self.assertEqual(len(net.wires()), 16)

    def test_open_when_calls_raise(self):
        net = net_of(patterns=("NK",), limits=(9, 0, 1000, 9, 1))
        # The opener does not know the key.
        self.assertEqual(net.do(("open", 0, 1, None, None)), [("error", 0, 0, "Refused")])
        self.assertEqual((net.wires(), net.end(1).links()), ([(0, 1)], [1]))
        # The answerer has a connection already, and the opener starts all the same.
        entries = net.do(("open", 0, 1, "bob", None))
        self.assertEqual(entries[0], ("error", 1, 1, "Refused"))
        self.assertEqual(entries[1][:3], ("effect", 1, 0))
        self.assertEqual(len(entries), 2)
        self.assertEqual(net.do(("open", 0, 1, "bob", None)), [("error", 2, 1, "Refused"),
                                                               ("error", 2, 0, "Refused")])
        self.assertEqual(net.wires(), [(0, 1)] * 3)
        self.assertEqual(net.trace()[-2:], [("error", 2, 1, "Refused"), ("error", 2, 0, "Refused")])

    def test_the_same_home_on_both_sides(self):
        net = net_of(many=1, patterns=("KK",))
        net.do(("open", 0, 0, "ann", "ann"))
        self.assertEqual(net.end(0).links(), [0, 1])
        net.do(("deliver", 0, 0, 0))
        net.do(("deliver", 0, 1, 0))
        self.assertEqual((net.end(0).stage(0), net.end(0).stage(1)), ("ready", "ready"))
        net.do(("post", 0, 0, (5,)))
        self.assertEqual(net.do(("deliver", 0, 0, 0)), [("effect", 0, 1, ("waits", 1, 1))])

    def test_post(self):
        for suite in SUITES:
            net = ready_net(suite)
            for side in (0, 1):
                for data in ((), (1, 2, 3)):
                    entries = net.do(("post", 0, side, data))
                    self.assertEqual(entries[0], ("posted", 0, side, data))
                    self.assertEqual(entries[1][:3] + entries[1][3][:2],
                                     ("effect", 0, side, "bytes", side))
                    self.assertEqual(len(entries), 2)
                    self.assertEqual(net.pieces(0, side)[-1], list(entries[1][3][2]))
            self.assertEqual((len(net.pieces(0, 0)), len(net.pieces(0, 1))), (2, 2))

    def test_post_that_waits_and_post_that_raises(self):
        net = net_of()
        net.do(("open", 0, 1, None, None))
        self.assertEqual(net.do(("post", 0, 0, (1,))), [("posted", 0, 0, (1,))])
        big = (0,) * 1048577
        self.assertEqual(net.do(("post", 0, 0, big)), [("error", 0, 0, "OutOfRange")])
        self.assertEqual(net.do(("post", 0, 0, big[1:])), [("error", 0, 0, "Refused")])
        net.do(("break", 0, 0))
        self.assertEqual(net.do(("post", 0, 0, (1,))), [("error", 0, 0, "OutOfOrder")])

    def test_fetch_finish_and_break(self):
        net = ready_net()
        self.assertEqual(net.do(("fetch", 0, 1)), [("effect", 0, 1, ("nothing", 1))])
        net.do(("post", 0, 0, (4, 5)))
        net.do(("deliver", 0, 0, 0))
        self.assertEqual(net.do(("fetch", 0, 1)), [("effect", 0, 1, ("message", 1, (4, 5)))])
        entries = net.do(("finish", 0, 0))
        self.assertEqual(entries[0], ("finished", 0, 0))
        self.assertEqual((len(entries), entries[1][:3]), (2, ("effect", 0, 0)))
        self.assertEqual(net.do(("finish", 0, 0)), [("error", 0, 0, "OutOfOrder")])
        self.assertEqual(net.do(("deliver", 0, 0, 0)), [("effect", 0, 1, ("whole", 1))])
        entries = net.do(("finish", 0, 1))
        self.assertEqual([entry[0] for entry in entries], ["finished", "effect", "effect"])
        self.assertEqual(entries[2], ("effect", 0, 1, ("over", 1)))
        self.assertEqual(net.do(("break", 0, 0)), [("effect", 0, 0, ("parted", 0))])
        for side in (0, 1):
            self.assertEqual(net.do(("break", 0, side)), [("error", 0, side, "OutOfOrder")])

    def test_sides_that_are_not_there(self):
        net = ready_net()
        for word, more in (("post", ((1,),)), ("fetch", ()), ("finish", ()), ("break", ())):
            for wire, side in ((1, 0), (-1, 0), (0, 2), (0, -1), (16, 1)):
                self.assert_nothing(net, (word, wire, side) + more)

    def test_tick(self):
        net = net_of(SMALL, 3, limits=(10, 0, 1000, 9, 9))
        for other in (1, 2, 0):
            net.do(("open", 0, other, None, None))
        self.assert_nothing(net, ("tick", 3, 5), ("tick", -1, 5), ("tick", 0, 0), ("tick", 0, -1),
                            ("tick", 0, 1000001))
        self.assertEqual(net.do(("tick", 0, 9)), [])
        expected = [("effect", 0, 0, ("failed", 0, "time")), ("effect", 1, 0, ("failed", 2, "time")),
                    ("effect", 2, 0, ("failed", 4, "time")), ("effect", 2, 1, ("failed", 5, "time"))]
        self.assertEqual(net.do(("tick", 0, 1)), expected)
        self.assertEqual(net.do(("tick", 1, 1000000)), [("effect", 0, 1, ("failed", 1, "time"))])
        self.assertEqual(net.do(("tick", 0, 1000000)), [])

    def test_tick_sends_alarms(self):
        net = ready_net(limits=(10, 5, 1000, 9, 9))
        entries = net.do(("tick", 1, 5))
        self.assertEqual([entry[3][0] for entry in entries], ["bytes", "failed"])
        self.assertEqual(net.pieces(0, 1), [list(entries[0][3][2])])
        self.assertEqual(net.do(("deliver", 0, 1, 0)), [("effect", 0, 0, ("failed", 0, "alarm"))])

    def test_homes_that_share_wires(self):
        net = ready_net(many=3)
        net.do(("open", 1, 0, None, None))
        net.do(("open", 2, 1, None, None))
        self.assertEqual(net.wires(), [(0, 1), (1, 0), (2, 1)])
        for wire, way in ((1, 0), (2, 0), (1, 1), (2, 1), (1, 0), (2, 0)):
            entries = net.do(("deliver", wire, way, 0))
            self.assertEqual({entry[1:3] for entry in entries}, {(wire, 1 - way)})
        self.assertEqual(net.end(1).links(), [1, 2, 5])
        self.assertEqual([net.end(1).stage(link) for link in (1, 2, 5)], ["ready"] * 3)
        entries = net.do(("post", 2, 1, (9,)))
        self.assertEqual(net.pieces(2, 1), [list(entries[1][3][2])])
        self.assertEqual(net.do(("deliver", 2, 1, 0)), [("effect", 2, 0, ("waits", 4, 1))])


class Power(NetCase):
    def test_power_that_is_lost(self):
        for deeds in (0, 1):
            net = net_of()
            self.assertEqual(net.do(("power", 0, deeds)), [])
            self.assertEqual(net.do(("open", 0, 1, None, None)),
                             [("error", 0, 0, "PowerLost"), ("down", 0)])
            self.assertEqual((net.is_down(0), net.is_down(1)), (True, False))
            self.assertEqual(net.wires(), [(0, 1)])
            with self.assertRaises(OutOfOrder):
                net.end(0).links()
            # Nothing can be done with its end, until it crashes.
            net.do(("make", 0, 1, (1, 2)))
            self.assert_nothing(net, ("deliver", 0, 1, 0), ("open", 0, 1, None, None),
                                ("open", 1, 0, None, None), ("post", 0, 0, (1,)), ("fetch", 0, 0),
                                ("finish", 0, 0), ("break", 0, 0), ("tick", 0, 1), ("power", 0, 5))
            self.assertEqual(net.pieces(0, 1), [[1, 2]])
            # The carrier and the other home go on.
            self.assertEqual(net.do(("fetch", 0, 1)), [("effect", 0, 1, ("nothing", 1))])
            net.do(("drop", 0, 1, 0))
            self.assertEqual(net.pieces(0, 1), [])
            self.assertEqual(net.do(("crash", 0, 0, 0)), [("began", 0, 1)])
            self.assertEqual((net.is_down(0), net.end(0).links()), (False, []))
            self.assertEqual(len(net.do(("open", 0, 1, None, None))), 1)

    def test_power_in_the_middle(self):
        net = net_of()
        net.do(("open", 0, 1, None, None))
        net.do(("power", 1, 1))
        entries = net.do(("deliver", 0, 0, 0))
        self.assertEqual(entries, [("error", 0, 1, "PowerLost"), ("down", 1)])
        self.assertEqual((net.pieces(0, 0), net.is_down(1)), ([], True))
        self.assertEqual(net.do(("tick", 0, 5)), [])
        self.assertEqual(net.do(("crash", 1, 5, 5)), [("began", 1, 1)])
        self.assertEqual(net.do(("crash", 1, 5, 5)), [("began", 1, 2)])
        self.assertEqual(net.do(("crash", 0, 5, 5)), [("began", 0, 1)])

    def test_power_that_suffices(self):
        net = net_of()
        net.do(("power", 0, 2))
        entries = net.do(("open", 0, 1, None, None))
        self.assertEqual([entry[0] for entry in entries], ["effect"])
        self.assertFalse(net.is_down(0))

    def test_bounds(self):
        net = net_of()
        self.assert_nothing(net, ("power", 2, 0), ("power", -1, 0), ("power", 0, -1),
                            ("power", 0, 1001), ("crash", 2, 0, 0), ("crash", -1, 0, 0),
                            ("crash", 0, -1, 0), ("crash", 0, 0, -1), ("crash", 0, 65537, 0),
                            ("crash", 0, 0, 65537))
        self.assertIsNone(net.homes[0].disk.left)
        self.assertEqual(len(net.do(("open", 0, 1, None, None))), 1)
        for deed in (("crash", 0, 65536, 0), ("crash", 0, 0, 65536)):
            self.assertEqual(net.do(deed)[0][:2], ("began", 0))
        net.do(("power", 0, 1000))
        self.assertEqual(net.homes[0].disk.left, 1000)
        self.assertEqual(len(net.do(("open", 0, 1, None, None))), 1)
        net.do(("power", 0, 0))
        self.assertEqual(len(net.do(("open", 0, 1, None, None))), 1)

    def test_a_crash(self):
        for suite in SUITES:
            net = ready_net(suite)
            net.do(("post", 0, 0, (1,)))
            net.do(("deliver", 0, 0, 0))
            net.do(("post", 0, 1, (1,)))
            self.assertEqual(net.do(("crash", 0, 0, 0)), [("began", 0, 1)])
            # All connections of that home are gone, and nothing else is.
            self.assertEqual((net.end(0).links(), net.end(1).links()), ([], [1]))
            self.assertEqual(len(net.pieces(0, 1)), 1)
            self.assertEqual(net.do(("deliver", 0, 1, 0)), [])
            self.assertEqual(net.do(("fetch", 0, 0)), [("effect", 0, 0, ("nothing", 0))])
            self.assertEqual(net.do(("fetch", 0, 1)), [("effect", 0, 1, ("message", 1, (1,)))])
            self.assertEqual(net.do(("post", 0, 0, (1,))), [("error", 0, 0, "OutOfOrder")])
            # The new end has the same options and secret, and new numbers.
            store = store_of(suite, 1)
            for _ in range(17):
                ephemeral = store.fresh()
            entries = net.do(("open", 0, 1, "bob", "ann"))
            data = [2, 88, 88, 0, suite.key_size] + suite.public(ephemeral)
            self.assertEqual(effects(entries), [("bytes", 2, tuple(data))])
            for way in (0, 1, 0):
                entries = net.do(("deliver", 1, way, 0))
            self.assertEqual(effects(entries)[-1][:4],
                             ("ready", 3, tuple(public_of(suite, 1)), "ann"))

    def test_kept_and_torn_bytes(self):
        record = 16
        for kept in (0, 1, 15, 16, 17, 65536):
            for torn in (0, 1, 65536):
                net = net_of()
                net.do(("power", 0, 1))
                net.do(("open", 0, 1, None, None))
                net.do(("crash", 0, kept, torn))
                entries = net.do(("open", 0, 1, None, None))
                store = store_of(SMALL, 1)
                for _ in range(17 if kept >= record else 1):
                    ephemeral = store.fresh()
                self.assertEqual(effects(entries)[0][2][5:], tuple(SMALL.public(ephemeral)))

    def test_names_that_are_kept(self):
        homes = [(seed_of(SMALL, 1), secret_of(SMALL, 1), [], {}),
                 (seed_of(SMALL, 2), secret_of(SMALL, 2), [], {"rule": ("first",)})]
        net = Net(SMALL, homes)
        for wire in range(2):
            net.do(("open", 0, 1, None, "zoe"))
            for way in (0, 1, 0):
                entries = net.do(("deliver", wire, way, 0))
            self.assertEqual(effects(entries)[-1][:4],
                             ("ready", 2 * wire + 1, tuple(public_of(SMALL, 1)), "zoe"))
            net.do(("crash", 1, 0, 0))

    def test_a_store_that_can_not_be_opened(self):
        """Only a disk that is armed anew does this, which no deed can do."""
        net = net_of()
        disk = net.homes[0].disk

        class Weak(type(disk)):
            def crash(self, kept, torn):
                super().crash(kept, torn)
                self.write(0, [1, 2, 3])
                self.settle(0)
                self.arm(0)
        disk.__class__ = Weak
        self.assertEqual(net.do(("crash", 0, 0, 0)), [("began", 0, 1), ("down", 0)])
        self.assertTrue(net.is_down(0))
        self.assert_nothing(net, ("open", 0, 1, None, None), ("tick", 0, 1))
        disk.__class__ = type(disk).__mro__[1]
        self.assertEqual(net.do(("crash", 0, 0, 0)), [("began", 0, 2)])
        self.assertFalse(net.is_down(0))


class Traces(NetCase):
    def test_a_whole_run(self):
        """The trace entry by entry, and what the calls of the ends return."""
        for suite in SUITES:
            plain = Plain(suite, "XX")
            net = net_of(suite)
            link = (0, 1)
            keys = [tuple(public_of(suite, number)) for number in (1, 2)]
            pieces = [[tuple(piece) for piece in plain.pieces(side)] for side in (0, 1)]
            expected = [("effect", 0, 0, ("bytes", 0, pieces[0][0])),
                        ("effect", 0, 1, ("bytes", 1, pieces[1][0])),
                        ("effect", 0, 0, ("bytes", 0, pieces[0][1])),
                        ("effect", 0, 0, ("ready", 0, keys[1], "bob", tuple(plain.hash))),
                        ("effect", 0, 1, ("ready", 1, keys[0], "ann", tuple(plain.hash)))]
            found = net.do(("open", 0, 1, "bob", "ann"))
            for way in (0, 1, 0):
                found += net.do(("deliver", 0, way, 0))
            self.assertEqual(found, expected)
            self.assertEqual(net.trace(), expected)
            self.assertEqual(link, (0, 1))

    def test_deeds_return_what_they_append(self):
        net = net_of()
        joined = []
        for deed in (("open", 0, 1, None, None), ("deliver", 0, 0, 0), ("fetch", 0, 0),
                     ("finish", 0, 0), ("power", 0, 0), ("open", 0, 1, None, None),
                     ("crash", 0, 0, 0), ("drop", 0, 0, 0)):
            joined += net.do(deed)
            self.assertEqual(net.trace(), joined)

    def test_what_is_returned_may_be_changed(self):
        net = ready_net()
        net.do(("post", 0, 0, (1, 2)))
        before = copy.deepcopy(self.seen(net))
        for found in (net.trace(), net.entries(), net.pieces(0, 0), net.wires(), net.public_key(0),
                      net.do(("fetch", 5, 5))):
            spoil(found)
        self.assertEqual(self.seen(net), before)
        self.assertEqual(net.public_key(0), public_of(SMALL, 1))
        spoil(net.do(("post", 0, 0, (1, 2))))
        self.assertEqual(net.trace()[-2], ("posted", 0, 0, (1, 2)))

    def test_deeds_keep_their_data(self):
        data = (1, 2, 3)
        net = ready_net()
        for deed in (("post", 0, 0, data), ("make", 0, 0, data)):
            self.assert_keeps(net.do, deed)

    def test_pieces_of_what_is_not_there(self):
        net = ready_net()
        for wire, way in ((1, 0), (-1, 0), (0, 2), (0, -1)):
            self.assertEqual(net.pieces(wire, way), [])


class Logs(NetCase):
    def test_places(self):
        for suite in SUITES:
            net = net_of(suite, rule=("first",))
            self.assertEqual(net.entries(), [])
            deeds = ((("open", 0, 1, "dora", "eve"), {(0, 0, 0)}),
                     (("deliver", 0, 0, 0), {(1, 0, 1)}), (("deliver", 0, 1, 0), {(0, 0, 0)}),
                     (("deliver", 0, 0, 0), {(1, 0, 1)}), (("post", 0, 0, (1,)), {(0, 0, 0)}),
                     (("post", 0, 1, (1,)), {(1, 0, 1)}), (("deliver", 0, 0, 0), {(1, 0, 1)}),
                     (("fetch", 0, 1), set()), (("finish", 0, 1), {(1, 0, 1)}),
                     (("open", 1, 0, None, None), {(1, 1, 0)}),
                     (("deliver", 1, 0, 0), {(0, 1, 1)}), (("crash", 0, 0, 0), set()))
            for deed, places in deeds:
                before = len(net.entries())
                net.do(deed)
                self.assertEqual({entry[1] for entry in net.entries()[before:]}, places, deed)

    def test_ticks(self):
        net = ready_net(limits=(10, 5, 1000, 9, 9))
        before = len(net.entries())
        net.do(("tick", 1, 5))
        # The alarm.
        entries = net.entries()[before:]
        self.assertEqual([entry[:2] for entry in entries], [("seal", (1, -1, 0))])

    def test_asking_adds_nothing(self):
        net = ready_net()
        before = net.entries()
        net.public_key(0)
        net.trace()
        net.wires()
        self.assertEqual(net.entries(), before)

    def test_a_message(self):
        for suite in SUITES:
            net = ready_net(suite, "NN")
            before = len(net.entries())
            plain = Plain(suite, "NN")
            key = plain.keys[0]
            net.do(("post", 0, 0, (7,)))
            net.do(("deliver", 0, 0, 0))
            size = 4 + suite.tag_size
            sealed = suite.seal(key, 0, [0, size], [1, 0, 1, 7])
            rest = (tuple(key), 0, (0, size), tuple(sealed))
            self.assertEqual(net.entries()[before:], [("seal", (0, 0, 0)) + rest,
                                                      ("open", (1, 0, 1)) + rest])


class AsEnds(NetCase):
    def test_against_plain_ends(self):
        """A net does what its ends do when they are driven by hand."""
        drawn = random.Random(31)
        for _ in range(15):
            options = {"patterns": ("XX", "NN"), "limits": (20, 15, 3, 8, 3)}
            net = net_of(SMALL, 2, **options)
            stores = [store_of(SMALL, number, {name: place + 1 for place, name in enumerate(NAMES)})
                      for number in (1, 2)]
            ends = [End(SMALL, store, **options) for store in stores]
            wires, ways, trace = [], {}, []

            def call(wire, side, word, *arguments):
                end, link = ends[wires[wire][side]], 2 * wire + side
                try:
                    found = getattr(end, word)(link, *arguments)
                except HushError as error:
                    trace.append(("error", wire, side, type(error).__name__))
                    if isinstance(error, PowerLost):
                        trace.append(("down", wires[wire][side]))
                        ends[wires[wire][side]] = None
                    return
                if word == "post":
                    trace.append(("posted", wire, side, tuple(*arguments)))
                if word == "finish":
                    trace.append(("finished", wire, side))
                tell(found)

            def tell(found):
                for effect in found:
                    wire, side = divmod(effect[1], 2)
                    trace.append(("effect", wire, side, frozen(effect)))
                    if effect[0] == "bytes":
                        ways[wire, side].append(effect[2])

            for _ in range(80):
                word = drawn.choice(("open", "deliver", "deliver", "deliver", "deliver", "post",
                                     "post", "fetch", "finish", "break", "tick", "power", "crash"))
                wire, side = drawn.randrange(4), drawn.randrange(2)
                if word == "open":
                    one, other = drawn.choice(((0, 1), (1, 0), (0, 0)))
                    name, expected = drawn.choice((None, "ann")), drawn.choice((None, "bob"))
                    net.do((word, one, other, name, expected))
                    if ends[one] and ends[other] and len(wires) < 16:
                        wires.append((one, other))
                        ways[len(wires) - 1, 0], ways[len(wires) - 1, 1] = [], []
                        call(len(wires) - 1, 1, "answer", expected)
                        call(len(wires) - 1, 0, "start", name)
                elif word == "tick":
                    count = drawn.randrange(1, 8)
                    net.do((word, side, count))
                    if ends[side]:
                        tell(ends[side].tick(count))
                elif word == "power":
                    if drawn.randrange(3) == 0:
                        net.do((word, side, 1))
                        stores[side].disk.arm(1)
                elif word == "crash":
                    if drawn.randrange(3) == 0:
                        net.do((word, side, 5, 1))
                        stores[side].disk.crash(5, 1)
                        trace.append(("began", side, stores[side].disk.crashes()))
                        stores[side] = Store(SMALL, stores[side].disk)
                        ends[side] = End(SMALL, stores[side], **options)
                elif wire < len(wires):
                    data = tuple(some_bytes(drawn.randrange(6)))
                    if word == "deliver":
                        net.do((word, wire, side, 0))
                        if ways[wire, side] and ends[wires[wire][1 - side]]:
                            call(wire, 1 - side, "receive", ways[wire, side].pop(0))
                    elif word == "post":
                        net.do((word, wire, side, data))
                        if ends[wires[wire][side]]:
                            call(wire, side, word, list(data))
                    else:
                        net.do((word, wire, side))
                        if ends[wires[wire][side]]:
                            call(wire, side, "cut_link" if word == "break" else word)
                self.assertEqual(net.trace(), trace)
                for place, pieces in ways.items():
                    self.assertEqual(net.pieces(*place), pieces)
                self.assertEqual([net.is_down(place) for place in (0, 1)],
                                 [end is None for end in ends])


if __name__ == "__main__":
    unittest.main()
