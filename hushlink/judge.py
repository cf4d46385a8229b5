"""The claims about the sides of wires, and what excuses a broken one (points 219 to 221)."""

from hushlink.watch import coincidences, forgeries


def effects_of(trace, wire, side, kind):
    """Return the effects of a kind that a side had."""
    return [entry[3] for entry in trace
            if entry[:3] == ("effect", wire, side) and entry[3][0] == kind]


def posted(trace, wire, side):
    """Return the messages that a side posted."""
    return [entry[3] for entry in trace if entry[:3] == ("posted", wire, side)]


def taken(trace, wire, side):
    """Return the messages that a side fetched."""
    return [effect[2] for effect in effects_of(trace, wire, side, "message")]


def came(trace, wire, side):
    """Return how many messages have arrived at a side."""
    return len(effects_of(trace, wire, side, "waits"))


def ready(trace, wire, side):
    """Return the first effect "ready" of a side, or None."""
    found = effects_of(trace, wire, side, "ready")
    if not found:
        return None
    return found[0]


def transcripts(trace):
    """Return the transcript of each side that was ready: a dict with pairs (wire, side)."""
    found = {}
    for entry in trace:
        if entry[0] == "effect" and entry[3][0] == "ready":
            found.setdefault((entry[1], entry[2]), entry[3][4])
    return found


def partners(trace, wire, side):
    """Return the sides that were ready with the same transcript, ascending."""
    found = transcripts(trace)
    if (wire, side) not in found:
        return []
    return [place for place in sorted(found)
            if place[1] == 1 - side and found[place] == found[(wire, side)]]


def is_whole(trace, wire, side):
    """Return True if the side has the effect "whole", otherwise False."""
    return len(effects_of(trace, wire, side, "whole")) > 0


def keeps_order(trace, wire, side, others):
    """Return True if the claim "order" holds."""
    got = taken(trace, wire, side)
    if (got or is_whole(trace, wire, side)) and not others:
        return False
    for other in others:
        sent = posted(trace, other[0], other[1])
        if sent[:len(got)] != got or came(trace, wire, side) > len(sent):
            return False
    return True


def keeps_peer(net, trace, wire, side, others):
    """Return True if the claim "peer" holds."""
    key = ready(trace, wire, side)[2]
    pairs = net.wires()
    for other in others:
        public = net.public_key(pairs[other[0]][other[1]])
        if key is not None and (public is None or key != tuple(public)):
            return False
    rule = net.home_rule(pairs[wire][side])
    return rule[0] != "pinned" or key in [tuple(pinned) for pinned in rule[1]]


def keeps_whole(trace, wire, side, others):
    """Return True if the claim "whole" holds."""
    if not is_whole(trace, wire, side):
        return True
    for other in others:
        if ("finished", other[0], other[1]) not in trace:
            return False
        if came(trace, wire, side) != len(posted(trace, other[0], other[1])):
            return False
    return True


def broken(net):
    """Return the broken claims, as tuples of the wire, the side and the claim."""
    trace = net.trace()
    found = []
    for wire, side in sorted(transcripts(trace)):
        others = partners(trace, wire, side)
        if not keeps_order(trace, wire, side, others):
            found.append((wire, side, "order"))
        if not keeps_peer(net, trace, wire, side, others):
            found.append((wire, side, "peer"))
        if not keeps_whole(trace, wire, side, others):
            found.append((wire, side, "whole"))
    return found


def excused(net, wire, side):
    """Return True if the side is excused, otherwise False."""
    entries = net.entries()
    forged = [entries[index][1][1:] for index in forgeries(entries)]
    same = [entries[index][1][1:] for index in coincidences(entries)]
    if (wire, side) in forged or (wire, side) in same:
        return True
    return any([place in same for place in partners(net.trace(), wire, side)])
