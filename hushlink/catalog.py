"""The named patterns and their modifiers (points 86 to 89)."""

from hushlink.errors import Malformed, Refused
from hushlink.pattern import ARROWS, MOST_TOKENS, Pattern
from hushlink.rules import broken_rule

PATTERN_NAMES = (
    "N", "K", "X",
    "NN", "NK", "NX", "KN", "KK", "KX", "XN", "XK", "XX", "IN", "IK", "IX",
    "NK1", "NX1",
    "X1N", "X1K", "XK1", "X1K1", "X1X", "XX1", "X1X1",
    "K1N", "K1K", "KK1", "K1K1", "K1X", "KX1", "K1X1",
    "I1N", "I1K", "IK1", "I1K1", "I1X", "IX1", "I1X1",
)
NAME_CHARACTERS = "NKXI1"
# The names of two letters whose first message a name of one letter has.
SHORT_NAMES = {"N": "NK", "K": "KK", "X": "IK"}
FALLBACK = "fallback"
PSK_MODIFIERS = ("psk0", "psk1", "psk2", "psk3", "psk4", "psk5", "psk6", "psk7", "psk8", "psk9")
OPENINGS = (("e",), ("s",), ("e", "s"))


def pattern_named(name):
    """Return the pattern of a full name."""
    bare, modifiers = split_name(name)
    pattern = bare_pattern(bare)
    for modifier in modifiers:
        if modifier == FALLBACK:
            pattern = fall_back(pattern)
        else:
            pattern = add_psk(pattern, PSK_MODIFIERS.index(modifier))
    if broken_rule(pattern) != 0:
        raise Refused("the pattern is not valid")
    return Pattern(name, pattern.before, pattern.messages)


def split_name(name):
    """Return the name of point 86 and the modifiers of a full name."""
    bare = leading_characters(name)
    if bare not in PATTERN_NAMES:
        raise Malformed("no pattern has this name")
    modifiers = []
    if bare != name:
        modifiers = name[len(bare):].split("+")
    numbered = modifiers
    if modifiers[:1] == [FALLBACK]:
        numbered = modifiers[1:]
    for modifier in numbered:
        if modifier not in PSK_MODIFIERS:
            raise Malformed("a modifier is not known or stands in a wrong place")
    # They differ only in the digit, so they are ordered as their numbers are.
    for earlier, later in zip(numbered, numbered[1:]):
        if earlier >= later:
            raise Malformed("the modifiers do not ascend")
    return bare, modifiers


def leading_characters(name):
    """Return the beginning of a name that has only letters and digits of point 86."""
    for place, character in enumerate(name):
        if character not in NAME_CHARACTERS:
            return name[:place]
    return name


def bare_pattern(name):
    """Return the pattern of a name of point 86."""
    if name in SHORT_NAMES:
        whole = plain_pattern(SHORT_NAMES[name])
        return Pattern(name, whole.before, whole.messages[:1])
    letters = [character for character in name if character != "1"]
    plain = plain_pattern("".join(letters))
    if len(letters) == len(name):
        return plain
    return deferred_pattern(plain, name[1] == "1", name[-1] == "1")


def plain_pattern(name):
    """Return the pattern of a name of two letters without digits."""
    first = name[0]
    second = name[1]
    one = ["e"]
    if second == "K":
        one.append("es")
    if first == "I":
        one.append("s")
    if second == "K" and first in ("K", "I"):
        one.append("ss")
    two = ["e", "ee"]
    if first in ("K", "I"):
        two.append("se")
    if second == "X":
        two.extend(["s", "es"])
    rows = [one, two]
    if first == "X":
        rows.append(["s", "se"])
    before = (known_key(first), known_key(second))
    return Pattern(name, before, messages_of(rows))


def known_key(letter):
    """Return the pre-message of an end whose key has this letter."""
    if letter == "K":
        return ("s",)
    return ()


def messages_of(rows):
    """Return the messages with these tokens, the opener's first."""
    return tuple([(ARROWS[place & 1], tuple(tokens)) for place, tokens in enumerate(rows)])


def deferred_pattern(plain, first_later, second_later):
    """Return the pattern with se, es or both moved to the next message."""
    moved = []
    if first_later:
        moved.append("se")
    if second_later:
        moved.append("es")
    rows = [[token for token in tokens if token not in moved and token != "ss"]
            for _, tokens in plain.messages]
    # Of two tokens that come to the beginning of one message, the one that is
    # put there last stands first.
    for token in moved[::-1]:
        put_later(rows, token, place_of(plain, token) + 1)
    return Pattern(plain.name, plain.before, messages_of(rows))


def place_of(pattern, token):
    """Return the index of the message that has the token."""
    places = [place for place, message in enumerate(pattern.messages) if token in message[1]]
    return places[0]


def put_later(rows, token, place):
    """Put a moved token into the row at its new place."""
    if place == 1:
        rows[1].append(token)
    elif place < len(rows):
        rows[place].insert(0, token)
    else:
        rows.append([token])


def add_psk(pattern, place):
    """Return the pattern with psk before the first message (place 0) or behind message place."""
    if place > len(pattern.messages):
        raise Refused("there is no such message")
    index = max(place - 1, 0)
    arrow, tokens = pattern.messages[index]
    if len(tokens) >= MOST_TOKENS:
        raise Refused("the message has no room for a token")
    if place == 0:
        changed = (arrow, ("psk",) + tokens)
    else:
        changed = (arrow, tokens + ("psk",))
    messages = pattern.messages[:index] + (changed,) + pattern.messages[index + 1:]
    return Pattern(pattern.name, pattern.before, messages)


def fall_back(pattern):
    """Return the pattern whose first message has become the opener's pre-message."""
    mine, others = pattern.before
    arrow, tokens = pattern.messages[0]
    if mine or arrow != "->" or tokens not in OPENINGS or len(pattern.messages) < 2:
        raise Refused("fallback is not possible for this pattern")
    return Pattern(pattern.name, (tokens, others), pattern.messages[1:])
