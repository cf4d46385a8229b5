"""The transcript and the messages of a handshake, written down plainly, for comparison.

It uses the methods of a suite, but nothing else of the program."""


def derived(suite, chain, data, many):
    k = suite.keyed(chain, data)
    values = [suite.keyed(k, [1])]
    while len(values) < many:
        values.append(suite.keyed(k, values[-1] + [len(values) + 1]))
    return values


class PlainTranscript:
    def __init__(self, suite, label):
        self.suite = suite
        codes = list(label.encode("ascii"))
        if len(codes) > suite.digest_size:
            self.h = suite.digest(codes)
        else:
            self.h = codes + [0] * (suite.digest_size - len(codes))
        self.chain = self.h
        self.key = None
        self.number = 0
        self.was_split = False

    def data(self, data):
        self.h = self.suite.digest(self.h + data)

    def key_input(self, data):
        self.chain, value = derived(self.suite, self.chain, data, 2)
        self.key, self.number = value[:self.suite.key_size], 0

    def both(self, data):
        self.chain, middle, value = derived(self.suite, self.chain, data, 3)
        self.data(middle)
        self.key, self.number = value[:self.suite.key_size], 0

    def sealed(self, text):
        result = list(text)
        if self.key is not None:
            result = self.suite.seal(self.key, self.number, self.h, text)
            self.number += 1
        self.data(result)
        return result

    def keys(self):
        values = derived(self.suite, self.chain, [], 2)
        self.was_split = True
        return tuple(value[:self.suite.key_size] for value in values)

    def state(self):
        return (tuple(self.chain), tuple(self.h), None if self.key is None else tuple(self.key),
                self.number, self.was_split)


def plain_run(suite, pattern, keys, prologue, psk, payloads):
    """Run a pattern for both ends at once; keys are the secret keys oe, os, ae and as.

    Return, for each message, its bytes and the transcript's state behind it, and the two keys."""
    transcript = PlainTranscript(suite, f"Noise_{pattern.name}_{suite.name}")
    with_psk = any("psk" in tokens for _, tokens in pattern.messages)
    transcript.data(list(prologue))

    def open_key(letter, token):
        public = suite.public(keys[letter + token])
        transcript.data(public)
        if token == "e" and with_psk:
            transcript.key_input(public)
        return public

    for letter, tokens in zip("oa", pattern.before):
        for token in tokens:
            open_key(letter, token)
    found = []
    for (arrow, tokens), payload in zip(pattern.messages, payloads):
        letter = {"->": "o", "<-": "a"}[arrow]
        message = []
        for token in tokens:
            if token == "e":
                message += open_key(letter, "e")
            elif token == "s":
                message += transcript.sealed(suite.public(keys[letter + "s"]))
            elif token == "psk":
                transcript.both(psk)
            else:
                secret, other = keys["o" + token[0]], keys["a" + token[1]]
                transcript.key_input(suite.exchange(secret, suite.public(other)))
        message += transcript.sealed(payload)
        found.append((message, transcript.state()))
    return found, transcript.keys()
