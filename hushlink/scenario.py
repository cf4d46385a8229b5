"""Scenarios, which are the deeds of a net as a text, and reports (points 222 and 223)."""

from hushlink.deeds import DATA, FORMS, NUMBER
from hushlink.entries import is_name
from hushlink.errors import BadLine, Malformed
from hushlink.octets import from_digits, to_digits

DECIMALS = "0123456789"
MOST_DECIMALS = 18
NOTHING = "-"


def read_scenario(text):
    """Return the deeds of a scenario."""
    deeds = []
    for number, line in enumerate(text.split("\n"), 1):
        if line != "" and not line.startswith("#"):
            deed = read_line(line)
            if deed is None:
                raise BadLine(number)
            deeds.append(deed)
    return deeds


def read_line(line):
    """Return the deed of a line, None if it is none."""
    words = line.split(" ")
    if words[0] not in FORMS or len(words) != 1 + len(FORMS[words[0]]):
        return None
    parts = []
    for kind, word in zip(FORMS[words[0]], words[1:]):
        if not is_word(kind, word):
            return None
        parts.append(read_word(kind, word))
    return (words[0],) + tuple(parts)


def is_word(kind, word):
    """Return True if a part of this kind can be written so, otherwise False."""
    if kind == NUMBER:
        return is_number(word)
    if word == NOTHING:
        return True
    if kind == DATA:
        return is_data(word)
    return is_name(word)


def is_number(word):
    """Return True if the word is a number in decimal digits, otherwise False."""
    if not 1 <= len(word) <= MOST_DECIMALS or (word[0] == "0" and word != "0"):
        return False
    return all([character in DECIMALS for character in word])


def is_data(word):
    """Return True if the word has the digits of some bytes, otherwise False."""
    try:
        return from_digits(word) != []
    except Malformed:
        return False


def read_word(kind, word):
    """Return the part of a deed that a word stands for."""
    if kind == NUMBER:
        return int(word)
    if kind == DATA:
        if word == NOTHING:
            return ()
        return tuple(from_digits(word))
    if word == NOTHING:
        return None
    return word


def write_part(part):
    """Return the word of a part of a deed or of an entry."""
    if part is None or part == ():
        return NOTHING
    if isinstance(part, tuple):
        return to_digits(list(part))
    return str(part)


def write_parts(parts):
    """Return the line of some parts."""
    return " ".join([write_part(part) for part in parts])


def write_scenario(deeds):
    """Return the text of some deeds."""
    return "\n".join([write_parts(deed) for deed in deeds])


def play(net, text):
    """Do the deeds of a scenario. Return the report of what they led to."""
    entries = []
    for deed in read_scenario(text):
        entries.extend(net.do(deed))
    return report(entries)


def report(entries):
    """Return the text of some entries of a trace."""
    return "\n".join([write_parts(spread(entry)) for entry in entries])


def spread(entry):
    """Return the parts of an entry, with those of an effect in its place."""
    if entry[0] == "effect":
        return entry[:3] + entry[3]
    return entry
