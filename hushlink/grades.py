"""Who can read and who can forge the messages of a pattern (points 90 to 93)."""

from hushlink.errors import OutOfRange
from hushlink.rules import LETTERS, SHARED


def can_compute(token, keys):
    """Return True if one of the private keys lets its holder compute the token."""
    return "o" + token[0] in keys or "a" + token[1] in keys


def is_open(pattern, index, keys):
    """Return True if a listener with these private keys can read the payload."""
    need_message(pattern, index)
    return can_compute_all(shared_until(pattern, index), keys)


def can_forge(pattern, index, keys):
    """Return True if the message can be forged with these private keys."""
    need_message(pattern, index)
    return forges(pattern, index, sender_of(pattern, index), keys)


def grades(pattern):
    """Return the source and destination grades of messages and transport payloads."""
    last = len(pattern.messages) - 1
    turns = [(sender_of(pattern, index), index) for index in range(last + 1)]
    # Transport payloads follow the tokens of the last message.
    if last == 0:
        turns.append((sender_of(pattern, 0), 0))
    else:
        turns.extend([("o", last), ("a", last)])
    pairs = []
    # The source grade of the last message that each end has sent.
    told = {"o": 0, "a": 0}
    for sender, index in turns:
        source = source_grade(pattern, index, sender)
        pairs.append((source, destination_grade(pattern, index, sender, told)))
        told[sender] = source
    return pairs


def need_message(pattern, index):
    """Raise OutOfRange unless the pattern has a message with this index."""
    if not 0 <= index < len(pattern.messages):
        raise OutOfRange("there is no such message")


def sender_of(pattern, index):
    """Return the letter of the end that sends a message."""
    return LETTERS[pattern.messages[index][0]]


def other_end(letter):
    """Return the letter of the other end."""
    if letter == "o":
        return "a"
    return "o"


def shared_until(pattern, index):
    """Return the tokens of shared secrets up to and with this message."""
    return [token for _, tokens in pattern.messages[:index + 1] for token in tokens
            if token in SHARED]


def can_compute_all(tokens, keys):
    """Return True if the private keys let their holder compute all tokens."""
    return all([can_compute(token, keys) for token in tokens])


def forges(pattern, index, sender, keys):
    """Return True if the private keys and an ephemeral one of the sender are enough."""
    return can_compute_all(shared_until(pattern, index), keys + [sender + "e"])


def source_grade(pattern, index, sender):
    """Return what the receiver knows of the sender after this message's tokens."""
    if forges(pattern, index, sender, []):
        return 0
    if forges(pattern, index, sender, [other_end(sender) + "s"]):
        return 1
    return 2


def destination_grade(pattern, index, sender, told):
    """Return who can read what the sender seals after this message's tokens."""
    done = shared_until(pattern, index)
    if not done:
        return 0
    if "ee" not in done:
        return 2
    receiver = other_end(sender)
    # The opener's key is the first letter of a token, the answerer's the second.
    if receiver == "o":
        static = ("se", "ss")
    else:
        static = ("es", "ss")
    if not any([token in static for token in done]):
        return 1
    return 3 + told[receiver]
