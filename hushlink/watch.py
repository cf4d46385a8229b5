"""A log of what suites are asked to do, and what is strange in it (points 216 to 218)."""

SEAL = "seal"
OPENED = "open"
KEYED = "keyed"
DIGEST = "digest"
PUBLIC = "public"
EXCHANGE = "exchange"
LABEL_START = "Noise_"


class Log:
    """The entries of all watched suites, in order, and the place of the calls that follow."""

    def __init__(self):
        self.noted = []
        self.wire = -1
        self.side = 0

    def entries(self):
        """Return a new list of the entries."""
        return list(self.noted)

    def add(self, entry):
        """Append an entry."""
        self.noted.append(entry)

    def go_to(self, wire, side):
        """Set the wire and the side of the places that follow."""
        self.wire = wire
        self.side = side


class WatchedSuite:
    """A suite that does what another one does, and keeps a log."""

    def __init__(self, suite, log, home):
        self.suite = suite
        self.log = log
        self.home = home
        self.name = suite.name
        self.key_size = suite.key_size
        self.tag_size = suite.tag_size
        self.digest_size = suite.digest_size
        self.block_size = suite.block_size

    def note(self, kind, parts):
        """Add an entry; its byte lists become tuples."""
        place = (self.home, self.log.wire, self.log.side)
        self.log.add((kind, place) + tuple([fixed(part) for part in parts]))

    def public(self, secret):
        """Return the public key of a secret key."""
        result = self.suite.public(secret)
        self.note(PUBLIC, [secret, result])
        return result

    def is_weak(self, public):
        """Return True if the public key must not be used, otherwise False."""
        return self.suite.is_weak(public)

    def exchange(self, secret, public):
        """Return the shared secret."""
        result = self.suite.exchange(secret, public)
        self.note(EXCHANGE, [self.suite.public(secret), public, result])
        return result

    def digest(self, data):
        """Return the digest of the data."""
        result = self.suite.digest(data)
        self.note(DIGEST, [data, result])
        return result

    def keyed(self, key, data):
        """Return the keyed digest of the data."""
        result = self.suite.keyed(key, data)
        self.note(KEYED, [key, data, result])
        return result

    def seal(self, key, number, data, text):
        """Return the sealed text."""
        sealed = self.suite.seal(key, number, data, text)
        self.note(SEAL, [key, number, data, sealed])
        return sealed

    def open_sealed(self, key, number, data, sealed):
        """Return the text of something sealed."""
        text = self.suite.open_sealed(key, number, data, sealed)
        self.note(OPENED, [key, number, data, sealed])
        return text


def fixed(part):
    """Return a byte list as a tuple, anything else as it is."""
    if isinstance(part, list):
        return tuple(part)
    return part


def forgeries(entries):
    """Return the indexes of what opened and was not sealed before."""
    sealed = {}
    found = []
    for index, entry in enumerate(entries):
        if entry[0] == SEAL:
            sealed[entry[2:]] = True
        elif entry[0] == OPENED and entry[2:] not in sealed:
            found.append(index)
    return found


def family(kind):
    """Return the kind, the same one for the kinds whose results must all differ."""
    if kind == KEYED:
        return DIGEST
    return kind


def arguments(entry):
    """Return what must be the same if the result is: the kind and the arguments."""
    if entry[0] == EXCHANGE:
        return (EXCHANGE,) + tuple(sorted(entry[2:4]))
    return (entry[0],) + entry[2:-1]


def begins_label(entry):
    """Return True if the result is one that begins as the label of a transcript does."""
    codes = tuple([ord(character) for character in LABEL_START])
    return family(entry[0]) == DIGEST and entry[-1][:len(codes)] == codes


def coincidences(entries):
    """Return the indexes of the results that something else has, too."""
    first = {}
    several = {}
    for entry in entries:
        if entry[0] not in (SEAL, OPENED):
            result = (family(entry[0]), entry[-1])
            if first.setdefault(result, arguments(entry)) != arguments(entry):
                several[result] = True
    return [index for index, entry in enumerate(entries)
            if entry[0] not in (SEAL, OPENED)
            and ((family(entry[0]), entry[-1]) in several or begins_label(entry))]


def crossings(entries):
    """Return the indexes of the exchanges that the same side made from both ends."""
    # An exchange as it is noted: the side, the two keys and the result.
    made = {}
    for entry in entries:
        if entry[0] == EXCHANGE:
            made[(entry[1][2], entry[2], entry[3], entry[4])] = True
    return [index for index, entry in enumerate(entries)
            if entry[0] == EXCHANGE and entry[2] != entry[3]
            and (entry[1][2], entry[3], entry[2], entry[4]) in made]


def clashes(entries):
    """Return the indexes of what was sealed with a key and a number that another seal has, too."""
    counts = {}
    for entry in entries:
        if entry[0] == SEAL:
            counts[entry[2:4]] = counts.get(entry[2:4], 0) + 1
    return [index for index, entry in enumerate(entries)
            if entry[0] == SEAL and counts[entry[2:4]] > 1]
