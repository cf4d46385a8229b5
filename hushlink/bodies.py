"""The bodies of a store's records (point 166), and what a bank of them says (point 168)."""

from hushlink.entries import (BEGIN, COMPLETE, KEEP, RELEASE, RESERVE, bytes_name, name_bytes,
                              read_records, write_record)
from hushlink.errors import Malformed
from hushlink.octets import from_big, to_big

GENERATION_SIZE = 4
LIMIT_SIZE = 8


class Bank:
    """What the records of a complete bank say."""

    def __init__(self, generation, root, own, length):
        self.generation = generation
        self.root = root
        self.own = own
        self.filled = length
        self.limit = 0
        self.table = {}


def begin_record(generation, seed, secret):
    """Return the bytes of the begin record."""
    body = to_big(generation, GENERATION_SIZE) + seed
    if secret is None:
        return write_record(BEGIN, body + [0])
    return write_record(BEGIN, body + [1] + secret)


def reserve_record(limit):
    """Return the bytes of the record that gives a limit."""
    return write_record(RESERVE, to_big(limit, LIMIT_SIZE))


def name_record(kind, name, key):
    """Return the bytes of the record that keeps or releases a name."""
    codes = name_bytes(name)
    return write_record(kind, [len(codes)] + codes + key)


def begin_parts(body, size):
    """Return the generation, the seed and the secret key of a begin record, None if it is none.

    size is the key size of the suite."""
    place = GENERATION_SIZE + size
    flag = body[place:place + 1]
    rest = body[place + 1:]
    if flag == [1] and len(rest) == size:
        secret = rest
    elif flag == [0] and not rest:
        secret = None
    else:
        return None
    return from_big(body[:GENERATION_SIZE]), body[GENERATION_SIZE:place], secret


def name_parts(body, size):
    """Return the name and the key of a record that keeps or releases, None if it is none."""
    if not body or len(body) != 1 + body[0] + size:
        return None
    end = 1 + body[0]
    try:
        name = bytes_name(body[1:end])
    except Malformed:
        return None
    return name, body[end:]


def read_bank(data, size):
    """Return what a bank says, None if it is not complete. size is the key size of the suite."""
    records, length = read_records(data)
    if (COMPLETE, []) not in records or records[0][0] != BEGIN:
        return None
    parts = begin_parts(records[0][1], size)
    if parts is None:
        return None
    generation, root, own = parts
    bank = Bank(generation, root, own, length)
    for kind, body in records[1:]:
        apply_record(bank, kind, body, size)
    return bank


def apply_record(bank, kind, body, size):
    """Let a record behind the first one change what a bank says."""
    if kind == RESERVE and len(body) == LIMIT_SIZE:
        bank.limit = from_big(body)
    if kind in (KEEP, RELEASE):
        parts = name_parts(body, size)
        if parts is not None:
            name, key = parts
            if kind == KEEP:
                bank.table[name] = key
            else:
                bank.table.pop(name, None)
