"""Turns, distances and rings, all told exactly."""

from math import gcd

from nearfields.errors import InRow

ORIGIN = (0, 0)


def turn(a, b, c):
    """1 where the way from a over b to c turns left, -1 for right, 0 for neither."""
    return sign(doubled_area(a, b, c))


def far(a, b):
    """The square of the distance from a to b."""
    across = b[0] - a[0]
    up = b[1] - a[1]
    return across * across + up * up


def ring(a, b, c, d):
    """1 where d lies within the ring through a, b and c, 0 where on it, -1 where outside."""
    side = turn(a, b, c)
    if side == 0:
        raise InRow("three points in a row have no ring")
    # How far d lies within, were a, b, c to turn left; a right turn only changes
    # its sign. Being a sum of products of whole numbers it loses nothing.
    depth = (
        far(d, a) * doubled_area(d, b, c)
        + far(d, b) * doubled_area(d, c, a)
        + far(d, c) * doubled_area(d, a, b)
    )
    return side * sign(depth)


def middle(a, b, c):
    """(x, y, w), where the ring through a, b and c has its middle at x by w and y by w."""
    w = 2 * doubled_area(a, b, c)
    if w == 0:
        raise InRow("three points in a row have no ring")
    out_a = far(ORIGIN, a)
    out_b = far(ORIGIN, b)
    out_c = far(ORIGIN, c)
    x = out_a * (b[1] - c[1]) + out_b * (c[1] - a[1]) + out_c * (a[1] - b[1])
    y = out_a * (c[0] - b[0]) + out_b * (a[0] - c[0]) + out_c * (b[0] - a[0])
    shared = gcd(gcd(x, y), w)
    # Dividing by a number below nought turns the sign of a w below nought.
    if w < 0:
        shared = -shared
    return (x // shared, y // shared, w // shared)


def doubled_area(a, b, c):
    """Twice the area of the triangle a, b, c, above nought where it turns left."""
    return (b[0] - a[0]) * (c[1] - a[1]) - (b[1] - a[1]) * (c[0] - a[0])


def sign(number):
    """1 above nought, -1 below it, 0 for nought."""
    if number > 0:
        return 1
    if number < 0:
        return -1
    return 0
