"""Numbers modulo the prime of the curve (points 20 to 22)."""

from hushlink.checks import need_length
from hushlink.octets import from_little, to_little

PRIME = (1 << 255) - 19


def add(a, b):
    """Return the sum modulo PRIME."""
    return (a + b) % PRIME


def subtract(a, b):
    """Return the difference modulo PRIME."""
    return (a - b) % PRIME


def multiply(a, b):
    """Return the product modulo PRIME."""
    return a * b % PRIME


def power(a, n):
    """Return a to the power n modulo PRIME; the power 0 is 1."""
    result = 1
    square = a % PRIME
    rest = n
    while rest > 0:
        if rest & 1 == 1:
            result = multiply(result, square)
        square = multiply(square, square)
        rest >>= 1
    return result


def invert(a):
    """Return the number whose product with a is 1, or 0 for 0."""
    # Every number to the power PRIME - 1 is 1, except for 0.
    return power(a, PRIME - 2)


def square_class(a):
    """Return 0 for 0, 1 for the square of another number, otherwise -1."""
    result = power(a, (PRIME - 1) // 2)
    if result == PRIME - 1:
        return -1
    return result


def square_root(a):
    """Return the even number whose square is a, or None if there is none."""
    # PRIME is 5 modulo 8. Therefore the square of this power is a or -a if a
    # is a square, and a root of -1 turns the one into the other.
    root = power(a, (PRIME + 3) // 8)
    if multiply(root, root) != a % PRIME:
        root = multiply(root, power(2, (PRIME - 1) // 4))
    if multiply(root, root) != a % PRIME:
        return None
    if root & 1 == 1:
        return PRIME - root
    return root


def field_from_bytes(data):
    """Return the field number of 32 bytes, without the highest bit."""
    need_length(data, 32, 32)
    return from_little(data[:31] + [data[31] & 127]) % PRIME


def field_to_bytes(a):
    """Return the 32 bytes of a modulo PRIME."""
    return to_little(a % PRIME, 32)
