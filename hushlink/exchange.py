"""The exchange of keys on the curve (points 22, 27, 28 and 32)."""

from hushlink.errors import Refused
from hushlink.field import field_from_bytes, field_to_bytes
from hushlink.ladder import affine, ladder, scalar
from hushlink.limbs import (add_limbs, from_limbs, invert_limbs, multiply_limbs, scale_limbs,
                            subtract_limbs, swap_limbs, to_limbs)
from hushlink.octets import zeros

BASE_COORDINATE = 9


def exchange(secret, public):
    """Return the 32 bytes of the exchange."""
    n = scalar(secret)
    u = field_from_bytes(public)
    return field_to_bytes(affine(ladder(n, u)))


def public_key(secret):
    """Return the public key of a secret key."""
    return exchange(secret, field_to_bytes(BASE_COORDINATE))


def is_weak(public):
    """Return True if the public key is weak, otherwise False."""
    # No point has the order 16, so the multiple by 8 has the u-coordinate 0
    # only if it is the point at infinity.
    return affine(ladder(8, field_from_bytes(public))) == 0


def agree(secret, public):
    """Return the exchange, or raise Refused if it is all zero."""
    shared = exchange(secret, public)
    if shared == zeros(32):
        raise Refused("the public key is weak")
    return shared


def exchange_limbs(secret, public):
    """Return the 32 bytes of the exchange, computed on limbs."""
    n = scalar(secret)
    u = field_from_bytes(public)
    x, z = ladder_limbs(n, to_limbs(u))
    return field_to_bytes(from_limbs(multiply_limbs(x, invert_limbs(z))))


def ladder_limbs(n, u):
    """Return the multiple by n of the point with the limbs u, as two limbs."""
    low = (to_limbs(1), to_limbs(0))
    high = (u, to_limbs(1))
    previous = 0
    for place in range(254, -1, -1):
        bit = (n >> place) & 1
        low, high = swap_points(bit ^ previous, low, high)
        low, high = double_limbs(low), add_points_limbs(low, high, u)
        previous = bit
    low, _ = swap_points(previous, low, high)
    return low


def swap_points(bit, low, high):
    """Return low and high if the bit is 0, high and low if it is 1."""
    x2, x3 = swap_limbs(bit, low[0], high[0])
    z2, z3 = swap_limbs(bit, low[1], high[1])
    return (x2, z2), (x3, z3)


def double_limbs(point):
    """Return the doubled point (point 24), on limbs."""
    x, z = point
    a = square_limbs(add_limbs(x, z))
    b = square_limbs(subtract_limbs(x, z))
    e = subtract_limbs(a, b)
    return multiply_limbs(a, b), multiply_limbs(e, add_limbs(a, scale_limbs(e, 121665)))


def add_points_limbs(low, high, u):
    """Return the sum of two points whose difference has the limbs u (point 25)."""
    x2, z2 = low
    x3, z3 = high
    p = multiply_limbs(subtract_limbs(x3, z3), add_limbs(x2, z2))
    q = multiply_limbs(add_limbs(x3, z3), subtract_limbs(x2, z2))
    total = add_limbs(p, q)
    difference = subtract_limbs(p, q)
    return square_limbs(total), multiply_limbs(u, square_limbs(difference))


def square_limbs(a):
    """Return the carried square."""
    return multiply_limbs(a, a)
