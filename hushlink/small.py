"""What the small suite is made of (point 102)."""

from hushlink.octets import cut, from_little, to_big, to_little

POWER_MODULUS = 170141183460469231731687303715884105727
MIX_MODULUS = 2305843009213693951
PIECE_SIZE = 7
STREAM_MASK = (1 << 56) - 1
EXPONENT_MASK = (1 << 124) - 1


def small_power(base, exponent):
    """Return base to the power of exponent, modulo L."""
    result = 1
    square = base % POWER_MODULUS
    rest = exponent
    while rest > 0:
        if rest & 1 == 1:
            result = result * square % POWER_MODULUS
        square = square * square % POWER_MODULUS
        rest >>= 1
    return result


def small_exponent(secret):
    """Return the exponent of a secret key of 16 bytes."""
    return 2 * (from_little(secret) & EXPONENT_MASK) + 3


def small_mix(pair, number):
    """Return the pair into which the number was mixed."""
    x, y = pair
    x = ((x + number) * (x + 1000000007) + y) % MIX_MODULUS
    y = ((y + number) * (y + 998244353) + x) % MIX_MODULUS
    return x, y


def small_digest(data):
    """Return the 16 bytes of the digest."""
    pair = (11, 17)
    for piece in cut(data, PIECE_SIZE):
        pair = small_mix(pair, from_little(piece + [1]))
    for _ in range(3):
        pair = small_mix(pair, len(data))
    return to_little(pair[0], 8) + to_little(pair[1], 8)


def small_stream(key, number, size):
    """Return the first size bytes of the stream."""
    start = small_digest([2] + key + to_big(number, 8))
    x = from_little(start[:8])
    y = from_little(start[8:])
    data = []
    while len(data) < size:
        x = (x * 1442695040888963407 + y + 1) % MIX_MODULUS
        y = (y * 1181783497276652981 + x + 1) % MIX_MODULUS
        data.extend(to_little(x & STREAM_MASK, PIECE_SIZE))
    return data[:size]


def small_tag(key, number, data, combined):
    """Return the 8 bytes of the tag of the associated data and the combined text."""
    lengths = to_big(number, 8) + to_big(len(data), 4)
    return small_digest([3] + key + lengths + data + combined)[:8]
