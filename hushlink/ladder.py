"""Secret keys as scalars, and multiples of points (points 21 to 26)."""

from hushlink.checks import need_length
from hushlink.field import add, invert, multiply, square_class, subtract
from hushlink.octets import from_little


def clamp(secret):
    """Return the 32 clamped bytes of a secret key."""
    need_length(secret, 32, 32)
    clamped = list(secret)
    clamped[0] &= 248
    clamped[31] = (clamped[31] & 127) | 64
    return clamped


def scalar(secret):
    """Return the scalar of a secret key."""
    return from_little(clamp(secret))


def double(point):
    """Return the doubled projective point."""
    x, z = point
    a = multiply(x + z, x + z)
    b = multiply(x - z, x - z)
    e = subtract(a, b)
    return multiply(a, b), multiply(e, a + 121665 * e)


def add_points(low, high, u):
    """Return the sum of two points whose difference has the u-coordinate u."""
    x2, z2 = low
    x3, z3 = high
    p = multiply(x3 - z3, x2 + z2)
    q = multiply(x3 + z3, x2 - z2)
    total = add(p, q)
    difference = subtract(p, q)
    return multiply(total, total), multiply(u, difference * difference)


def ladder(n, u):
    """Return the projective multiple by n of the point with u-coordinate u."""
    low = (1, 0)
    high = (u, 1)
    for place in range(254, -1, -1):
        total = add_points(low, high, u)
        if (n >> place) & 1 == 0:
            low, high = double(low), total
        else:
            low, high = total, double(high)
    return low


def affine(point):
    """Return the u-coordinate of a projective point."""
    # The inverse of 0 is 0, so the point at infinity gives 0.
    x, z = point
    return multiply(x, invert(z))


def curve_side(u):
    """Return 1 for points of the curve, -1 for the twist, 0 if v is 0."""
    return square_class(u * u * u + 486662 * u * u + u)
