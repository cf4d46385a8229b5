"""The checked configuration of an end (points 181 to 183)."""

from hushlink.accepting import check_rule
from hushlink.catalog import pattern_named
from hushlink.checks import need_length, need_range
from hushlink.errors import OutOfRange, Refused
from hushlink.handshake import MOST_PROLOGUE, PSK_SIZE
from hushlink.rules import needs_secret, uses_psk

MOST_PATTERNS = 8
MOST_NAME = 60
# The least and the greatest value of each limit.
LIMIT_BOUNDS = ((1, 1000000), (0, 1000000), (2, 1000000), (0, 16777216), (1, 16))


def checked_pattern(name, has_secret, is_first):
    """Return the pattern of a full name that an end can run."""
    pattern = pattern_named(name)
    if len(name) > MOST_NAME or len(pattern.messages) < 2 or pattern.messages[0][0] != "->":
        raise Refused("ends do not run this pattern")
    needed = needs_secret(pattern, opener=False)
    if is_first:
        needed = needed or needs_secret(pattern, opener=True)
    if needed and not has_secret:
        raise Refused("the pattern needs a secret key, and the store has none")
    return pattern


def check_psk(patterns, psk):
    """Raise Refused unless a psk is given exactly if a pattern uses it."""
    is_used = any([uses_psk(pattern) for pattern in patterns])
    if is_used != (psk is not None):
        raise Refused("a psk is missing, or no pattern uses it")


def check_limits(limits):
    """Raise OutOfRange unless each limit is within its bounds."""
    need_length(limits, len(LIMIT_BOUNDS), len(LIMIT_BOUNDS))
    for number, bounds in zip(limits, LIMIT_BOUNDS):
        need_range(number, bounds[0], bounds[1])


def whole_copy(value):
    """Return a value in which all lists are new ones."""
    if isinstance(value, list):
        return [whole_copy(item) for item in value]
    if isinstance(value, tuple):
        return tuple([whole_copy(item) for item in value])
    return value


class Options:
    """What an end was given when it was made."""

    def __init__(self, suite, store, patterns, prologue, psk, rule, limits):
        has_secret = store.secret() is not None
        chosen = [checked_pattern(name, has_secret, place == 0)
                  for place, name in enumerate(patterns)]
        check_psk(chosen, psk)
        need_length(chosen, 1, MOST_PATTERNS)
        if len(set(patterns)) < len(patterns):
            raise OutOfRange("two names are alike")
        need_length(prologue, 0, MOST_PROLOGUE)
        if psk is not None:
            need_length(psk, PSK_SIZE, PSK_SIZE)
        check_rule(rule, suite.key_size)
        check_limits(limits)
        self.suite = suite
        self.store = store
        self.patterns = {pattern.name: pattern for pattern in chosen}
        self.first = chosen[0]
        self.prologue = list(prologue)
        self.psk = whole_copy(psk)
        self.rule = whole_copy(rule)
        self.handshake_ticks, self.silent_ticks, self.records, self.waiting, self.most = limits

    def pattern(self, name):
        """Return the pattern of the tuple with this full name, or None."""
        return self.patterns.get(name)
