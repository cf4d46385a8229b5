"""A net of homes and wires, driven by deeds (points 210 to 215)."""

from hushlink.carrying import CHANGES, MOST_PIECE
from hushlink.checks import need_length
from hushlink.deeds import has_form
from hushlink.entries import is_name
from hushlink.errors import Exhausted, Malformed, OutOfOrder, OutOfRange, PowerLost, Refused
from hushlink.homes import Home, records_limit
from hushlink.options import whole_copy
from hushlink.watch import Log, WatchedSuite, fixed

MOST_HOMES = 8
MOST_WIRES = 16
MOST_TICKS = 1000000
MOST_DEEDS = 1000
MOST_LOST = 65536


class Wire:
    """The homes at both sides, and the pieces on both ways."""

    def __init__(self, pair):
        self.pair = pair
        self.ways = ([], [])


def attempt(call):
    """Return the effects of a call, and the name of its error or an empty string."""
    try:
        return call(), ""
    except PowerLost:
        return [], "PowerLost"
    except OutOfOrder:
        return [], "OutOfOrder"
    except Refused:
        return [], "Refused"
    except Exhausted:
        return [], "Exhausted"
    except OutOfRange:
        return [], "OutOfRange"


class Net:
    """Homes, wires between them, and a trace of what has happened."""

    def __init__(self, suite, homes, *, prologue=()):
        need_length(homes, 1, MOST_HOMES)
        seeds = [home[0] for home in homes]
        limits = [records_limit(home[3]) for home in homes]
        for place, seed in enumerate(seeds):
            if seed in seeds[:place] or limits[place] != limits[0]:
                raise Malformed("two homes have the same seed, or differ in a limit")
        self.suite = suite
        self.log = Log()
        self.cables = []
        self.story = []
        self.homes = []
        for place, (seed, secret, names, options) in enumerate(homes):
            named = {**options, "prologue": list(prologue)}
            watched = WatchedSuite(suite, self.log, place)
            self.homes.append(Home(watched, seed, secret, names, named))

    def do(self, deed):
        """Do a deed. Return the entries that it appended to the trace."""
        start = len(self.story)
        if has_form(deed):
            self.do_well_formed(deed[0], deed[1:])
        return self.story[start:]

    def do_well_formed(self, word, parts):
        """Do a deed that has as many parts as its name requires."""
        if word in CHANGES:
            change = CHANGES[word]
            pieces = self.way(parts[0], parts[1])
            rest = parts[2:]
            change(pieces, *rest)
        else:
            act = DEEDS[word]
            act(self, *parts)

    def way(self, wire, way):
        """Return the pieces of a way themselves, an empty list if there is no such way."""
        if 0 <= wire < len(self.cables) and way in (0, 1):
            return self.cables[wire].ways[way]
        return []

    def has_home(self, home):
        """Return True if there is such a home, otherwise False."""
        return 0 <= home < len(self.homes)

    def has_live_home(self, home):
        """Return True if there is such a home, and it is not down, otherwise False."""
        return self.has_home(home) and not self.homes[home].is_off

    def has_live_side(self, wire, side):
        """Return True if there is such a side, and its home is not down, otherwise False."""
        if not 0 <= wire < len(self.cables) or side not in (0, 1):
            return False
        return not self.homes[self.cables[wire].pair[side]].is_off

    def call(self, wire, side, action, first):
        """Call the end of a side: the action takes the end and its link.

        first are the entries that stand before the effects if nothing is raised."""
        home = self.homes[self.cables[wire].pair[side]]
        self.log.go_to(wire, side)
        effects, word = attempt(lambda: action(home.live, 2 * wire + side))
        self.log.go_to(-1, 0)
        if word == "":
            self.story.extend(first)
            self.tell(effects)
            return
        self.story.append(("error", wire, side, word))
        if word == "PowerLost":
            home.is_off = True
            self.story.append(("down", self.cables[wire].pair[side]))

    def tell(self, effects):
        """Append effects to the trace, and send what they send."""
        for effect in effects:
            wire = effect[1] // 2
            side = effect[1] & 1
            parts = tuple([fixed(part) for part in effect])
            self.story.append(("effect", wire, side, parts))
            if effect[0] == "bytes":
                self.cables[wire].ways[side].append(list(effect[2]))

    def trace(self):
        """Return all entries of the trace."""
        return list(self.story)

    def entries(self):
        """Return the entries of the log."""
        return self.log.entries()

    def pieces(self, wire, way):
        """Return the pieces of a way, empty if there is no such way."""
        return [list(piece) for piece in self.way(wire, way)]

    def wires(self):
        """Return the pair of homes of each wire."""
        return [cable.pair for cable in self.cables]

    def public_key(self, home):
        """Return the public key of the home's secret, or None."""
        # Not by the watched suite: who asks does not change the log.
        secret = self.homes[home].own
        if secret is None:
            return None
        return self.suite.public(secret)

    def home_rule(self, home):
        """Return the rule of a home's end."""
        return whole_copy(self.homes[home].live.options.rule)

    def is_down(self, home):
        """Return True if the home is down, otherwise False."""
        return self.homes[home].is_off

    def end(self, home):
        """Return the end of the home."""
        return self.homes[home].live


def deliver(net, wire, way, index):
    """Hand a piece to the end at the other side of its way."""
    pieces = net.way(wire, way)
    if 0 <= index < len(pieces) and net.has_live_side(wire, 1 - way):
        piece = pieces.pop(index)
        net.call(wire, 1 - way, lambda end, link: end.receive(link, piece), [])


def carry(net, wire, way, index, other, other_way):
    """Append a copy of a piece to a way."""
    pieces = net.way(wire, way)
    if 0 <= index < len(pieces):
        net.way(other, other_way).append(list(pieces[index]))


def make(net, wire, way, data):
    """Append a piece of some bytes to a way."""
    if 1 <= len(data) <= MOST_PIECE:
        net.way(wire, way).append(list(data))


def open_wire(net, home, other, name, expected):
    """Make a new wire, and let one home answer and the other one start."""
    for given in (name, expected):
        if given is not None and not is_name(given):
            return
    if len(net.cables) >= MOST_WIRES:
        return
    if net.has_live_home(home) and net.has_live_home(other):
        wire = len(net.cables)
        net.cables.append(Wire((home, other)))
        net.call(wire, 1, lambda end, link: end.answer(link, expected), [])
        net.call(wire, 0, lambda end, link: end.start(link, name), [])


def post(net, wire, side, data):
    """Let an end post a message."""
    if net.has_live_side(wire, side):
        first = [("posted", wire, side, tuple(data))]
        net.call(wire, side, lambda end, link: end.post(link, list(data)), first)


def fetch(net, wire, side):
    """Let an end fetch a message."""
    if net.has_live_side(wire, side):
        net.call(wire, side, lambda end, link: end.fetch(link), [])


def finish(net, wire, side):
    """Let an end finish."""
    if net.has_live_side(wire, side):
        first = [("finished", wire, side)]
        net.call(wire, side, lambda end, link: end.finish(link), first)


def break_link(net, wire, side):
    """Tell an end that its link is broken."""
    if net.has_live_side(wire, side):
        net.call(wire, side, lambda end, link: end.cut_link(link), [])


def tick(net, home, count):
    """Let ticks pass for an end."""
    if net.has_live_home(home) and 1 <= count <= MOST_TICKS:
        net.tell(net.homes[home].live.tick(count))


def power(net, home, deeds):
    """Arm a home's disk."""
    if net.has_live_home(home) and 0 <= deeds <= MOST_DEEDS:
        net.homes[home].disk.arm(deeds)


def crash(net, home, kept, torn):
    """Let a home crash and begin again."""
    if net.has_home(home) and 0 <= kept <= MOST_LOST and 0 <= torn <= MOST_LOST:
        fallen = net.homes[home]
        fallen.disk.crash(kept, torn)
        net.story.append(("began", home, fallen.disk.crashes()))
        _, word = attempt(lambda: fallen.begin_again())
        if word == "PowerLost":
            fallen.is_off = True
            net.story.append(("down", home))


DEEDS = {"deliver": deliver, "carry": carry, "make": make, "open": open_wire, "post": post,
         "fetch": fetch, "finish": finish, "break": break_link, "tick": tick, "power": power,
         "crash": crash}
