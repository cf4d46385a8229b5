"""The rules for patterns, and what a pattern asks of an end (points 81, 82, 84 and 85)."""

SHARED = ("ee", "es", "se", "ss")
# Each end has its arrow, and the letter that its keys begin with: "oe" and
# "os" are the opener's ephemeral and static key, "ae" and "as" the answerer's.
LETTERS = {"->": "o", "<-": "a"}
# The end that encrypts, a token that may have been processed before, and the
# one that must have been processed then.
GUARDS = (("o", "se", "ee"), ("o", "ss", "es"), ("a", "es", "ee"), ("a", "ss", "se"))


def broken_rule(pattern):
    """Return the smallest number of a rule that the pattern breaks, or 0."""
    done = trail(pattern)
    keys = [step for step in done if step in ("oe", "os", "ae", "as")]
    if len(keys) > len(set(keys)):
        return 1
    shared = [step for step in done if step in SHARED]
    if len(shared) > len(set(shared)):
        return 2
    if not all([has_keys(done[:place], step) for place, step in enumerate(done)]):
        return 3
    moments = encryptions(pattern)
    if not all([is_guarded(letter, before) for letter, before in moments]):
        return 4
    if has_stray_psk(pattern):
        return 5
    if not all([has_own_key(letter, before) for letter, before in moments]):
        return 6
    return 0


def trail(pattern):
    """Return the keys that are sent and the other tokens, in order."""
    steps = []
    for letter, tokens in zip("oa", pattern.before):
        steps.extend([letter + token for token in tokens])
    for arrow, tokens in pattern.messages:
        steps.extend([named_step(LETTERS[arrow], token) for token in tokens])
    return steps


def named_step(letter, token):
    """Return the name of the key that a token sends, or the token itself."""
    if token in ("e", "s"):
        return letter + token
    return token


def has_keys(before, step):
    """Return True if the step names no keys that were not sent before."""
    if step not in SHARED:
        return True
    return "o" + step[0] in before and "a" + step[1] in before


def encryptions(pattern):
    """Return the end and the steps before it, for each static key and payload."""
    done = trail(pattern)
    place = len(pattern.before[0]) + len(pattern.before[1])
    moments = []
    for arrow, tokens in pattern.messages:
        for token in tokens:
            if token == "s":
                moments.append((LETTERS[arrow], done[:place]))
            place += 1
        moments.append((LETTERS[arrow], done[:place]))
    # The transport payloads. With one message, its sender's is like the
    # payload of that message.
    if len(pattern.messages) > 1:
        moments.extend([("o", done), ("a", done)])
    return moments


def is_guarded(letter, before):
    """Return True if rule 4 lets this end encrypt after these steps."""
    for end, risky, needed in GUARDS:
        if letter == end and risky in before and needed not in before:
            return False
    return True


def has_own_key(letter, before):
    """Return True if rule 6 lets this end encrypt after these steps."""
    return "psk" not in before or letter + "e" in before


def has_stray_psk(pattern):
    """Return True if a psk stands where rule 5 does not let it stand."""
    for number, message in enumerate(pattern.messages):
        tokens = message[1]
        inner = tokens[:-1]
        if number == 0:
            inner = tokens[1:-1]
        if "psk" in inner:
            return True
    return False


def end_before(pattern, opener):
    """Return the pre-message of an end."""
    if opener:
        return pattern.before[0]
    return pattern.before[1]


def end_sends(pattern, token, opener):
    """Return True if a message of the end has the token, otherwise False."""
    arrow = "<-"
    if opener:
        arrow = "->"
    return any([sender == arrow and token in tokens for sender, tokens in pattern.messages])


def needs_secret(pattern, *, opener):
    """Return True if the end must have a static key pair, otherwise False."""
    return sends_secret(pattern, opener=opener) or "s" in end_before(pattern, opener)


def needs_peer(pattern, *, opener):
    """Return True if the end must have the other's static public key before."""
    return "s" in end_before(pattern, not opener)


def sends_secret(pattern, *, opener):
    """Return True if a message of the end has the token s, otherwise False."""
    return end_sends(pattern, "s", opener)


def uses_psk(pattern):
    """Return True if psk occurs, otherwise False."""
    return any(["psk" in tokens for _, tokens in pattern.messages])
