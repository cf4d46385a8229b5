"""Field numbers as five limbs of 51 bits (points 29 to 31)."""

from hushlink.field import PRIME

LIMB_BITS = 51
LIMB_MASK = (1 << 51) - 1
LOOSE_BITS = 54
PRIME_LIMBS = ((1 << 51) - 19, (1 << 51) - 1, (1 << 51) - 1, (1 << 51) - 1, (1 << 51) - 1)


def is_tight(limbs):
    """Return True if each limb is less than 2^51, otherwise False."""
    return all([limb >> LIMB_BITS == 0 for limb in limbs])


def is_loose(limbs):
    """Return True if each limb is less than 2^54, otherwise False."""
    return all([limb >> LOOSE_BITS == 0 for limb in limbs])


def to_limbs(a):
    """Return the tight limbs of a modulo PRIME."""
    number = a % PRIME
    return [(number >> (LIMB_BITS * k)) & LIMB_MASK for k in range(5)]


def from_limbs(limbs):
    """Return the field number for which the limbs stand."""
    return sum([limb << (LIMB_BITS * k) for k, limb in enumerate(limbs)]) % PRIME


def carry(limbs):
    """Return tight limbs that stand for the same field number."""
    carried = list(limbs)
    for _ in range(3):
        for k in range(4):
            carried[k + 1] += carried[k] >> LIMB_BITS
            carried[k] &= LIMB_MASK
        carried[0] += 19 * (carried[4] >> LIMB_BITS)
        carried[4] &= LIMB_MASK
    return carried


def add_limbs(a, b):
    """Return the carried sum."""
    return carry([one + other for one, other in zip(a, b)])


def subtract_limbs(a, b):
    """Return the carried difference."""
    # 16 times the prime changes nothing but keeps each limb from being negative.
    raised = [one + 16 * extra for one, extra in zip(a, PRIME_LIMBS)]
    return carry([one - other for one, other in zip(raised, b)])


def multiply_limbs(a, b):
    """Return the carried product."""
    sums = []
    for k in range(5):
        plain = sum([a[i] * b[k - i] for i in range(k + 1)])
        wrapped = sum([a[i] * b[k + 5 - i] for i in range(k + 1, 5)])
        sums.append(plain + 19 * wrapped)
    return carry(sums)


def scale_limbs(a, k):
    """Return the carried product of limbs and a small number."""
    return carry([k * limb for limb in a])


def swap_limbs(bit, a, b):
    """Return new lists of a and b if the bit is 0, of b and a if it is 1."""
    # By arithmetic, so that the steps do not depend on the bit.
    changes = [bit * (one ^ other) for one, other in zip(a, b)]
    first = [one ^ change for one, change in zip(a, changes)]
    second = [other ^ change for other, change in zip(b, changes)]
    return first, second


def invert_limbs(a):
    """Return tight limbs of the inverse, of 0 for 0."""
    result = [1, 0, 0, 0, 0]
    square = a
    rest = PRIME - 2
    while rest > 0:
        if rest & 1 == 1:
            result = multiply_limbs(result, square)
        square = multiply_limbs(square, square)
        rest >>= 1
    return result
