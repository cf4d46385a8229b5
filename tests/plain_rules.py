"""The rules and grades of patterns, worked out step by step, for comparison."""

SHARED = ("ee", "es", "se", "ss")


def steps(pattern):
    """Each step of a pattern: ("key", end, token), ("mix", end, token) or ("payload", end, None)."""
    found = []
    for end, tokens in zip(("->", "<-"), pattern.before):
        found += [("given", end, token) for token in tokens]
    for end, tokens in pattern.messages:
        for token in tokens:
            found.append(("key" if token in ("e", "s") else "mix", end, token))
        found.append(("payload", end, None))
    found.append(("payload", "->" if len(pattern.messages) > 1 else pattern.messages[0][0], None))
    found.append(("payload", "<-" if len(pattern.messages) > 1 else pattern.messages[0][0], None))
    return found


def broken_rules(pattern):
    """The set of the numbers of all rules that a pattern breaks."""
    broken = set()
    sent = {"->": [], "<-": []}
    done = []
    for kind, end, token in steps(pattern):
        if kind == "payload" or (kind == "key" and token == "s"):
            broken |= rules_of_an_encryption(end, sent[end], done)
        if kind in ("given", "key"):
            if token in sent[end]:
                broken.add(1)
            sent[end].append(token)
        if kind == "mix":
            if token in SHARED and token in done:
                broken.add(2)
            if token in SHARED and not (token[0] in sent["->"] and token[1] in sent["<-"]):
                broken.add(3)
            done.append(token)
    for number, (_, tokens) in enumerate(pattern.messages):
        for place, token in enumerate(tokens):
            at_the_end = place == len(tokens) - 1
            if token == "psk" and not at_the_end and not (number == 0 and place == 0):
                broken.add(5)
    return broken


def rules_of_an_encryption(end, sent, done):
    if not done:
        return set()
    broken = set()
    needs = {"->": {"se": "ee", "ss": "es"}, "<-": {"es": "ee", "ss": "se"}}[end]
    for token, needed in needs.items():
        if token in done and needed not in done:
            broken.add(4)
    if "psk" in done and "e" not in sent:
        broken.add(6)
    return broken


def plain_computes(token, keys):
    return {"e": "oe", "s": "os"}[token[0]] in keys or {"e": "ae", "s": "as"}[token[1]] in keys


def tokens_before(pattern, index):
    """The tokens of shared secrets that are processed before the payload with this index."""
    done = []
    for _, tokens in pattern.messages[:index + 1]:
        done += [token for token in tokens if token in SHARED]
    return done


def plain_open(pattern, index, keys):
    return not [token for token in tokens_before(pattern, index)
                if not plain_computes(token, keys)]


def plain_forge(pattern, index, keys, end):
    return plain_open(pattern, index, list(keys) + [{"->": "oe", "<-": "ae"}[end]])


def plain_grades(pattern):
    ends = [end for end, _ in pattern.messages]
    ends += ["->", "<-"] if len(ends) > 1 else ends
    found = []
    for index, end in enumerate(ends):
        receiver = {"->": "<-", "<-": "->"}[end]
        static = {"->": "os", "<-": "as"}[receiver]
        if plain_forge(pattern, index, [], end):
            source = 0
        else:
            source = 1 if plain_forge(pattern, index, [static], end) else 2
        done = tokens_before(pattern, index)
        with_static = [token for token in done if token[0 if receiver == "->" else 1] == "s"]
        if plain_open(pattern, index, []):
            destination = 0
        elif "ee" not in done:
            destination = 2
        elif not with_static:
            destination = 1
        else:
            received = [pair[0] for pair, other in zip(found, ends) if other == receiver]
            destination = 3 + (received[-1] if received else 0)
        found.append((source, destination))
    return found
