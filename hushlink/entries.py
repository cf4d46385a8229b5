"""The records of a bank, and names (points 164, 165 and 167)."""

from hushlink.checks import need_length, need_range
from hushlink.errors import Malformed
from hushlink.octets import from_big, to_big

BEGIN = 1
COMPLETE = 2
RESERVE = 3
KEEP = 4
RELEASE = 5
MOST_BODY = 65535
SUM_MODULUS = 65521
HEAD_SIZE = 3
SUM_SIZE = 4
LAST_BYTE = 255
NAME_CHARACTERS = "abcdefghijklmnopqrstuvwxyz0123456789-"
MOST_NAME = 32


def byte_sum(data):
    """Return the sum of some bytes."""
    low = 1
    high = 0
    for byte in data:
        low = (low + byte) % SUM_MODULUS
        high = (high + low) % SUM_MODULUS
    return high * 65536 + low


def write_record(kind, body):
    """Return the bytes of a record."""
    need_range(kind, BEGIN, RELEASE)
    need_length(body, 0, MOST_BODY)
    data = [kind] + to_big(len(body), HEAD_SIZE - 1) + body
    return data + to_big(byte_sum(data), SUM_SIZE) + [LAST_BYTE]


def read_records(data):
    """Return the records at the beginning of a byte list, and the length of their bytes."""
    records = []
    start = 0
    end = record_end(data, start)
    while end is not None:
        records.append((data[start], data[start + HEAD_SIZE:end - SUM_SIZE - 1]))
        start = end
        end = record_end(data, start)
    return records, start


def record_end(data, start):
    """Return where the whole record that begins at start ends, None if there is none."""
    head = data[start:start + HEAD_SIZE]
    if len(head) < HEAD_SIZE or not BEGIN <= head[0] <= RELEASE:
        return None
    body_end = start + HEAD_SIZE + from_big(head[1:])
    end = body_end + SUM_SIZE + 1
    if end > len(data) or data[end - 1] != LAST_BYTE:
        return None
    if from_big(data[body_end:end - 1]) != byte_sum(data[start:body_end]):
        return None
    return end


def is_name(value):
    """Return True if the value, of any kind, is a name, otherwise False."""
    if not isinstance(value, str) or not 1 <= len(value) <= MOST_NAME:
        return False
    return all([character in NAME_CHARACTERS for character in value])


def name_bytes(name):
    """Return the ASCII codes of a name."""
    if not is_name(name):
        raise Malformed("this is no name")
    return [ord(character) for character in name]


def bytes_name(data):
    """Return the name of some ASCII codes."""
    letters = {ord(character): character for character in NAME_CHARACTERS}
    if not 1 <= len(data) <= MOST_NAME or not all([code in letters for code in data]):
        raise Malformed("this is no name")
    return "".join([letters[code] for code in data])
