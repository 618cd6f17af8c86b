"""Lists of points that several tests take: ordinary ones, and the edges that the document names."""

from itertools import product
from random import Random

M = 1000000


def shuffled(things, seed):
    """The same things in another order."""
    found = list(things)
    Random(seed).shuffle(found)
    return found


def scattered(count, limit, seed):
    """As many points, no two alike, whose numbers go up to the limit."""
    dice = Random(seed)
    found = {}
    while len(found) < count:
        found[(dice.randint(-limit, limit), dice.randint(-limit, limit))] = True
    return list(found)


def grid(across, up):
    return list(product(range(across), range(up)))


def on_ring(radius):
    """All points at this distance from (0, 0)."""
    places = range(-radius, radius + 1)
    return [(x, y) for x, y in product(places, repeat=2) if x * x + y * y == radius * radius]


# Points at the very distance M from (0, 0), all of whole numbers.
WIDE_RING = [
    (M, 0),
    (997120, 75840),
    (600000, 800000),
    (0, M),
    (-352000, 936000),
    (-M, 0),
    (-752192, -658944),
    (280000, -960000),
]

CORNERS = [(-M, -M), (M, -M), (M, M), (-M, M)]

ROWS = {
    "one point": [(3, -4)],
    "one point at the limits": [(M, -M)],
    "two points": [(5, 5), (-1, 7)],
    "two points above each other": [(2, 9), (2, -9)],
    "two points at the limits": [(M, M), (-M, -M)],
    "a flat row": [(4, 0), (0, 0), (2, 0), (1, 0), (9, 0)],
    "an upright row": [(1, 3), (1, -2), (1, 8), (1, 0)],
    "a row that rises": [(2, 2), (0, 0), (6, 6), (4, 4), (-2, -2)],
    "a row that falls": [(0, 0), (3, -1), (-3, 1), (9, -3), (6, -2)],
    "a row at the limits": [(0, 0), (M, -M), (-M, M), (1, -1)],
    "forty in a row": shuffled([(3 * k - 60, 2 * k) for k in range(40)], 1),
}

# Few enough that each list of triangles that fills them can be found by trying.
SMALL = {
    "a triangle": [(0, 0), (4, 0), (0, 4)],
    "a triangle numbered to the right": [(0, 0), (0, 4), (4, 0)],
    "a narrow triangle at the limits": [(-M, -M), (M, M), (M, M - 1)],
    "a square": [(0, 0), (1, 0), (1, 1), (0, 1)],
    "a square numbered across": [(1, 1), (0, 0), (1, 0), (0, 1)],
    "a square numbered across the other way": [(1, 0), (0, 1), (0, 0), (1, 1)],
    "the corners of the limits": CORNERS,
    "a kite": [(0, 0), (2, 1), (6, 0), (2, -1)],
    "a dart": [(0, 4), (-3, -2), (0, 0), (3, -2)],
    "a point in a triangle": [(0, 0), (9, 0), (0, 9), (2, 2)],
    "a point amid a side": [(0, 0), (2, 0), (4, 0), (1, 3)],
    "two points amid a side": [(4, 0), (1, 3), (2, 0), (0, 0), (3, 0)],
    "a point amid each side": [(0, 0), (4, 0), (0, 4), (2, 2), (0, 2), (2, 0)],
    "a point amid the upright sides": [(0, 0), (4, 0), (4, 2), (4, 4), (0, 4), (0, 2)],
    "a row and one above": [(3, 0), (0, 0), (1, 0), (2, 0), (0, 5)],
    "a row and one on each hand": [(0, 0), (1, 1), (2, 2), (0, 3), (3, 0)],
    "a square and its middle": [(2, 2), (0, 0), (4, 0), (4, 4), (0, 4)],
    "a square and its middle last": [(0, 0), (4, 0), (4, 4), (0, 4), (2, 2)],
    "six on one ring": [(5, 0), (3, 4), (-4, 3), (-5, 0), (-3, -4), (4, -3)],
    "six on one wide ring": shuffled(WIDE_RING, 2)[:6],
    "five at the limits": [(M, -M), (0, 0), (M, M), (-M, M), (-M, -M)],
    "two threes by two": shuffled(grid(3, 2), 3),
    "a narrow heap": [(0, 0), (1, 0), (2, 1), (3, 2), (5, 3), (8, 5)],
    "six scattered": scattered(6, 9, 4),
    "six scattered far": scattered(6, M, 5),
    "seven scattered": scattered(7, 6, 6),
}

LARGE = {
    "forty scattered": scattered(40, 1000, 7),
    "forty scattered far": scattered(40, M, 8),
    "forty in a crowd": scattered(40, 4, 9),
    "a grid of thirty-six": shuffled(grid(6, 6), 10),
    "a long grid": shuffled(grid(2, 20), 11),
    "thirty-six on one ring": shuffled(on_ring(65), 12),
    "thirty-six on one ring, and four in it": shuffled(on_ring(65) + [(0, 0), (1, 0), (0, 1), (7, 7)], 13),
    "three rings": shuffled(on_ring(5) + on_ring(10) + on_ring(13), 14),
    "a wide ring and its middle": shuffled(WIDE_RING + [(0, 0)], 15),
    "thirty-nine in a row and one above": shuffled([(k, 0) for k in range(39)] + [(19, 5)], 16),
    "a row and some on each hand": shuffled(
        [(k, k) for k in range(-9, 10)] + [(k, -k) for k in range(1, 10)] + [(-7, 9), (5, -2)], 17
    ),
    "a bow": [(k, k * k) for k in range(40)],
    "the corners of the limits and a crowd": CORNERS + scattered(30, 5, 18),
    "points along the limits": shuffled(
        CORNERS + [(0, -M), (1, -M), (M, 1 - M), (M, 0), (-1, M), (0, M), (-M, 0), (0, 0), (M - 1, M - 1)], 19
    ),
}

FULL = {**SMALL, **LARGE}
ALL = {**ROWS, **FULL}
