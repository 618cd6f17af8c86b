"""What the document promises, worked out by trying all there is, with nothing of the package."""

from fractions import Fraction
from functools import cmp_to_key, lru_cache
from itertools import combinations, permutations


def area(a, b, c):
    """Twice the area by the corners alone, above nought where they turn left."""
    (ax, ay), (bx, by), (cx, cy) = a, b, c
    return ax * by - ay * bx + bx * cy - by * cx + cx * ay - cy * ax


def gap(a, b):
    return (a[0] - b[0]) ** 2 + (a[1] - b[1]) ** 2


def depth(a, b, c, d):
    """Above nought where d lies within the ring of a, b, c, which turn left; nought on it."""
    rows = [(x - d[0], y - d[1]) for x, y in (a, b, c)]
    (p, q, r), (s, t, u), (v, w, z) = [(x, y, x * x + y * y) for x, y in rows]
    return p * (t * z - u * w) - q * (s * z - u * v) + r * (s * w - t * v)


def centre(a, b, c):
    """Where the lines that halve a, b and a, c cross, in fractions."""
    across, up = b[0] - a[0], b[1] - a[1]
    over, rise = c[0] - a[0], c[1] - a[1]
    first = Fraction(across * across + up * up, 2)
    second = Fraction(over * over + rise * rise, 2)
    below = across * rise - up * over
    return (
        a[0] + (first * rise - second * up) / below,
        a[1] + (across * second - over * first) / below,
    )


def amid(a, b, c):
    """Whether c lies in a row with a and b, and between them."""
    if area(a, b, c) != 0:
        return False
    return (c[0] - a[0]) * (c[0] - b[0]) + (c[1] - a[1]) * (c[1] - b[1]) < 0


@lru_cache(maxsize=None)
def lie_in_row(points):
    return all(area(*three) == 0 for three in combinations(points, 3))


def in_row(points):
    return lie_in_row(tuple(points))


def plain_hull(points):
    return list(hull_of(tuple(points)))


# Kept, since many tests ask for the hull of the same points again and again.
@lru_cache(maxsize=None)
def hull_of(points):
    first = min(range(len(points)), key=lambda k: points[k])
    if in_row(points):
        return sorted(range(len(points)), key=lambda k: gap(points[first], points[k]))
    after = {}
    for a, b in permutations(range(len(points)), 2):
        others = [c for c in range(len(points)) if c not in (a, b)]
        sided = [area(points[a], points[b], points[c]) for c in others]
        if min(sided) >= 0 and not any(amid(points[a], points[b], points[c]) for c in others):
            after[a] = b
    found = [first]
    while after[found[-1]] != first:
        found.append(after[found[-1]])
    return found


def steps_of(triangle):
    a, b, c = triangle
    return [(a, b), (b, c), (c, a)]


def told(triangles):
    """The triangles as the document has them told."""
    turned = []
    for a, b, c in triangles:
        turned.append(min((a, b, c), (b, c, a), (c, a, b)))
    return sorted(turned)


def holds(triangle, spot):
    """Whether the spot lies in this triangle of points or on its edge."""
    a, b, c = triangle
    return area(a, b, spot) >= 0 and area(b, c, spot) >= 0 and area(c, a, spot) >= 0


def apart(one, other):
    """Whether two triangles of points that turn left share no more than edges."""
    for first, second in ((one, other), (other, one)):
        for a, b in steps_of(first):
            if all(area(a, b, spot) <= 0 for spot in second):
                return True
    return False


def is_free(points, triangle):
    """Whether a triangle turns left, with no point within or amid a side."""
    corners = tuple(points[k] for k in triangle)
    if area(*corners) <= 0:
        return False
    return not any(holds(corners, points[k]) for k in range(len(points)) if k not in triangle)


def covers(points, net):
    """Whether each spot of the hull off the sides lies in just one triangle, all of them free."""
    if not all(is_free(points, triangle) for triangle in net):
        return False
    shapes = [tuple(points[k] for k in triangle) for triangle in net]
    if not all(apart(one, other) for one, other in combinations(shapes, 2)):
        return False
    edge = [points[k] for k in plain_hull(points)]
    whole = sum(area(edge[0], a, b) for a, b in zip(edge, edge[1:]))
    return sum(area(*shape) for shape in shapes) == whole


def all_nets(points):
    """All lists of triangles that fill the points, each as it is told."""
    if in_row(points):
        return [[]]
    free = [
        triangle
        for triangle in permutations(range(len(points)), 3)
        if triangle[0] == min(triangle) and is_free(points, triangle)
    ]
    edge = plain_hull(points)
    nets = []
    grow(points, free, [], list(zip(edge, edge[1:] + edge[:1])), nets)
    return sorted(nets)


def grow(points, free, net, open_steps, nets):
    """Put a triangle to the first open step, in each way that there is, until none is open."""
    if not open_steps:
        nets.append(sorted(net))
        return
    for triangle in free:
        steps = steps_of(triangle)
        shape = tuple(points[k] for k in triangle)
        if open_steps[0] not in steps:
            continue
        if not all(apart(shape, tuple(points[k] for k in other)) for other in net):
            continue
        rest = [step for step in open_steps if step not in steps]
        rest += [(b, a) for a, b in steps if (a, b) not in open_steps]
        grow(points, free, net + [triangle], rest, nets)


def tops_of(net):
    """Each step, with the third number of its triangle."""
    return {step: sum(triangle) - sum(step) for triangle in net for step in steps_of(triangle)}


def sides_of(net):
    steps = tops_of(net)
    return sorted((a, b) for a, b in steps if a < b and (b, a) in steps)


def four_of(tops, side):
    """The four-corner of a side, turning left."""
    a, b = side
    return [a, tops[(b, a)], b, tops[(a, b)]]


def bulges(points, four):
    shape = [points[k] for k in four]
    return all(area(shape[k - 2], shape[k - 1], shape[k]) > 0 for k in range(4))


def plain_swapped(net, side):
    a, d, b, c = four_of(tops_of(net), side)
    left = [triangle for triangle in net if not {a, b} <= set(triangle)]
    return told(left + [(a, d, c), (d, b, c)])


def is_wrong(points, four):
    a, d, b, c = four
    deep = depth(points[a], points[b], points[c], points[d])
    return deep > 0 or (deep == 0 and min(a, b, c, d) not in (a, b))


def wrong_sides(points, net):
    tops = tops_of(net)
    return [side for side in sides_of(net) if is_wrong(points, four_of(tops, side))]


def plain_mended(points, net):
    swaps = []
    net = told(net)
    while wrong := wrong_sides(points, net):
        swaps.append(wrong[0])
        net = plain_swapped(net, wrong[0])
    return (swaps, net)


def plain_near(points):
    """The triangles on rings without a point within: on each ring all have its least number."""
    found = set()
    for triangle in combinations(range(len(points)), 3):
        a, b, c = [points[k] for k in triangle]
        if area(a, b, c) == 0:
            continue
        if area(a, b, c) < 0:
            b, c = c, b
        depths = [depth(a, b, c, point) for point in points]
        if max(depths) > 0:
            continue
        around = turned_left(points, [k for k, deep in enumerate(depths) if deep == 0])
        found.update((around[0], b, c) for b, c in zip(around[1:], around[2:]))
    return sorted(found)


def turned_left(points, numbers):
    """Points of one ring, told turning left from the least number on."""
    first, *rest = sorted(numbers)
    order = cmp_to_key(lambda a, b: -1 if area(points[first], points[a], points[b]) > 0 else 1)
    return [first] + sorted(rest, key=order)


def by_turn(origin, points, numbers):
    """The numbers, turning left round the origin, from the right-hand side of it on."""

    def half(k):
        x, y = points[k][0] - origin[0], points[k][1] - origin[1]
        return 0 if y > 0 or (y == 0 and x > 0) else 1

    def order(a, b):
        if half(a) != half(b):
            return half(a) - half(b)
        return -1 if area(origin, points[a], points[b]) > 0 else 1

    return sorted(numbers, key=cmp_to_key(order))


def plain_around(points, net, number):
    edge = plain_hull(points)
    at = edge.index(number) if number in edge else None
    if in_row(points):
        return sorted(edge[k] for k in (at - 1, at + 1) if 0 <= k < len(edge))
    found = {k for triangle in net if number in triangle for k in triangle if k != number}
    told_round = by_turn(points[number], points, found)
    first = min(found) if at is None else edge[(at + 1) % len(edge)]
    cut = told_round.index(first)
    return told_round[cut:] + told_round[:cut]


def plain_walked(points, net, start, spot):
    walk = [start]
    while True:
        here = gap(points[walk[-1]], spot)
        numbers = plain_around(points, net, walk[-1])
        best = min(((gap(points[k], spot), k) for k in numbers), default=(here, None))
        if best[0] >= here:
            return walk
        walk.append(best[1])


def stirred(points, net, times, dice):
    """Triangles come to by swapping sides that the dice choose."""
    net = told(net)
    for _ in range(times):
        tops, sides = tops_of(net), sides_of(net)
        free = [side for side in sides if bulges(points, four_of(tops, side))]
        if not free:
            break
        net = plain_swapped(net, dice.choice(free))
    return net


def handed(net, dice):
    """The same triangles, each from any of its numbers on, and in any order."""
    turned = []
    for a, b, c in net:
        turned.append(dice.choice([(a, b, c), (b, c, a), (c, a, b)]))
    dice.shuffle(turned)
    return turned
