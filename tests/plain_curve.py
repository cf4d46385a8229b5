"""Points with both coordinates, for comparison with the ladder."""

P = 2 ** 255 - 19
A = 486662


def root(a):
    """A square root of a modulo P, or None."""
    found = pow(a, (P + 3) // 8, P)
    if found * found % P != a % P:
        found = found * pow(2, (P - 1) // 4, P) % P
    return found if found * found % P == a % P else None


def right_side(u):
    return (u ** 3 + A * u * u + u) % P


def add_full(first, second, factor):
    """The sum of two points (u, v) of factor * v^2 = u^3 + A u^2 + u; None is infinity."""
    if first is None or second is None:
        return first or second
    (u1, v1), (u2, v2) = first, second
    if u1 == u2 and (v1 + v2) % P == 0:
        return None
    if first == second:
        slope = (3 * u1 * u1 + 2 * A * u1 + 1) * pow(2 * factor * v1, -1, P) % P
    else:
        slope = (v2 - v1) * pow(u2 - u1, -1, P) % P
    u3 = (factor * slope * slope - A - u1 - u2) % P
    return u3, (slope * (u1 - u3) - v1) % P


def multiple_point(n, u):
    """N times a point with the coordinate u, by plain additions; None is infinity."""
    factor = 1 if root(right_side(u)) is not None else 2
    point = (u, root(right_side(u) * pow(factor, -1, P)))
    total = None
    for bit in format(n, "b"):
        total = add_full(total, total, factor)
        if bit == "1":
            total = add_full(total, point, factor)
    return total


def multiple(n, u):
    """The u-coordinate of n times a point with the coordinate u."""
    total = multiple_point(n, u)
    return 0 if total is None else total[0]
