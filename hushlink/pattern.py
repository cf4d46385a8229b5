"""Handshake patterns and their written form (points 80 to 83)."""

from hushlink.errors import Malformed

TOKENS = ("e", "s", "ee", "es", "se", "ss", "psk")
PRE_MESSAGES = (("e",), ("s",), ("e", "s"))
ARROWS = ("->", "<-")
DIVIDER = "..."
MOST_MESSAGES = 12
MOST_TOKENS = 8


class Pattern:
    """What two ends send to each other in a handshake, and which secrets they mix."""

    def __init__(self, name, before, messages):
        self.name = name
        self.before = before
        self.messages = messages


def parse_pattern(text):
    """Return the pattern of a written form, without a name."""
    lines = text.split("\n")
    before = ((), ())
    if DIVIDER in lines:
        place = lines.index(DIVIDER)
        before = parse_before(lines[:place])
        lines = lines[place + 1:]
    if not 1 <= len(lines) <= MOST_MESSAGES:
        raise Malformed("a pattern has 1 to 12 messages")
    messages = tuple([parse_line(line) for line in lines])
    for earlier, later in zip(messages, messages[1:]):
        if earlier[0] == later[0]:
            raise Malformed("the senders do not alternate")
    return Pattern("", before, messages)


def parse_before(lines):
    """Return the pre-messages of the lines before the divider."""
    parsed = [parse_line(line) for line in lines]
    arrows = [arrow for arrow, _ in parsed]
    if arrows not in (["->"], ["<-"], ["->", "<-"]):
        raise Malformed("the pre-messages are not the opener's and then the answerer's")
    before = {"->": (), "<-": ()}
    for arrow, tokens in parsed:
        if tokens not in PRE_MESSAGES:
            raise Malformed("a pre-message lists e, s, or e and then s")
        before[arrow] = tokens
    return before["->"], before["<-"]


def parse_line(line):
    """Return the pair of the arrow and the tokens of a line."""
    arrow = line[:2]
    if arrow not in ARROWS or line[2:3] != " ":
        raise Malformed("a line begins with an arrow and a space")
    tokens = tuple(line[3:].split(", "))
    if len(tokens) > MOST_TOKENS:
        raise Malformed("a line has at most 8 tokens")
    for token in tokens:
        if token not in TOKENS:
            raise Malformed("a token is not known")
    return arrow, tokens


def write_pattern(pattern):
    """Return the written form of a pattern."""
    lines = [write_line(arrow, tokens) for arrow, tokens in zip(ARROWS, pattern.before) if tokens]
    if lines:
        lines.append(DIVIDER)
    lines.extend([write_line(arrow, tokens) for arrow, tokens in pattern.messages])
    return "\n".join(lines)


def write_line(arrow, tokens):
    """Return the line of an arrow and some tokens."""
    return arrow + " " + ", ".join(tokens)
