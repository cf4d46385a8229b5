"""The tag and the sealing, written down plainly, for comparison."""

from plain_stream import plain_block, plain_stream

P = 2 ** 130 - 5


def plain_r(data):
    """The number r, with the named bits set to 0 one by one."""
    kept = list(data)
    for place in (3, 7, 11, 15):
        kept[place] %= 16
    for place in (4, 8, 12):
        kept[place] -= kept[place] % 4
    return int.from_bytes(bytes(kept), "little")


def sum_of(r, text):
    total = 0
    for start in range(0, len(text), 16):
        piece = bytes(text[start:start + 16]) + b"\x01"
        total = (total + int.from_bytes(piece, "little")) * r % P
    return total


def known_tag(key, text):
    s = int.from_bytes(bytes(key[16:]), "little")
    return list(((sum_of(plain_r(key[:16]), text) + s) % 2 ** 128).to_bytes(16, "little"))


def known_tagged(data, ciphertext):
    text = []
    for part in (data, ciphertext):
        text += part
        while len(text) % 16:
            text.append(0)
    for part in (data, ciphertext):
        text += list(len(part).to_bytes(8, "little"))
    return text


def known_sealed(key, nonce, data, text):
    stream = plain_stream(key, nonce, len(text), 1)
    ciphertext = [one ^ other for one, other in zip(text, stream)]
    one_time = plain_block(key, 0, nonce)[:32]
    return ciphertext + known_tag(one_time, known_tagged(data, ciphertext))
