"""Points with both coordinates, for comparison with the ladder."""

from support import some_number

P = 2 ** 255 - 19
A = 486662
# The u-coordinates of the points whose order divides 8.
WEAK = [0, 1, P - 1,
        325606250916557431795983626356110631294008115727848805560023387167927233504,
        39382357235489614581723060781553021112529911719440698176882885853963445705823]
# The bytes of these have the highest bit clear and are less than the prime.
STRONG = [2, 3, 4, 5, 6, 9, P - 2, P - 9, some_number(254), some_number(254, 2)]


def key_bytes(number):
    return list(number.to_bytes(32, "little"))


def with_highest_bit(public):
    return public[:31] + [public[31] | 128]


def weak_keys():
    """All 32 bytes that are read as one of the weak u-coordinates."""
    keys = [key_bytes(u) for u in WEAK] + [key_bytes(u + P) for u in WEAK if u + P < 2 ** 255]
    return keys + [with_highest_bit(key) for key in keys]


def root(a):
    """A square root of a modulo P, or None."""
    found = pow(a, (P + 3) // 8, P)
    if found * found % P != a % P:
        found = found * pow(2, (P - 1) // 4, P) % P
    return found if found * found % P == a % P else None


def right_side(u):
    return (u ** 3 + A * u * u + u) % P


def add_full(first, second, factor):
    """The sum of two points (u, v) of factor * v^2 = u^3 + A u^2 + u; None is infinity."""
    if first is None or second is None:
        return first or second
    (u1, v1), (u2, v2) = first, second
    if u1 == u2 and (v1 + v2) % P == 0:
        return None
    if first == second:
        slope = (3 * u1 * u1 + 2 * A * u1 + 1) * pow(2 * factor * v1, -1, P) % P
    else:
        slope = (v2 - v1) * pow(u2 - u1, -1, P) % P
    u3 = (factor * slope * slope - A - u1 - u2) % P
    return u3, (slope * (u1 - u3) - v1) % P


def multiple_point(n, u):
    """N times a point with the coordinate u, by plain additions; None is infinity."""
    factor = 1 if root(right_side(u)) is not None else 2
    point = (u, root(right_side(u) * pow(factor, -1, P)))
    total = None
    for bit in format(n, "b"):
        total = add_full(total, total, factor)
        if bit == "1":
            total = add_full(total, point, factor)
    return total


def multiple(n, u):
    """The u-coordinate of n times a point with the coordinate u."""
    total = multiple_point(n, u)
    return 0 if total is None else total[0]
