"""The rules that say which public key of a peer is accepted (point 182)."""

from hushlink.errors import OutOfRange
from hushlink.octets import is_bytes

PLAIN_RULES = (("any",), ("nobody",), ("names",), ("first",))
MOST_PINNED = 64


def check_rule(rule, key_size):
    """Raise OutOfRange unless this is a rule with keys of key_size bytes."""
    if not isinstance(rule, tuple):
        raise OutOfRange("a rule is a tuple")
    if rule in PLAIN_RULES:
        return
    if len(rule) != 2 or rule[0] != "pinned" or not isinstance(rule[1], list):
        raise OutOfRange("there is no such rule")
    if len(rule[1]) > MOST_PINNED:
        raise OutOfRange("a rule names too many keys")
    for key in rule[1]:
        if not is_bytes(key) or len(key) != key_size:
            raise OutOfRange("a rule names what is no key")


def accepts(rule, store, name, key):
    """Return True if the rule accepts a key, or None for no key, of the peer of a name."""
    kind = rule[0]
    if kind == "any":
        return True
    if kind == "nobody" or key is None:
        return kind == "nobody" and key is None
    if kind == "pinned":
        return key in rule[1]
    if name is None:
        return kind == "first" or store.key_names(key) != []
    kept = store.name_key(name)
    if kept is None:
        return kind == "first"
    return kept == key
