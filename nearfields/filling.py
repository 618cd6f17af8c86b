"""The hull of points, and the triangles that fill them."""

from nearfields.plane import turn
from nearfields.steps import tops_by_step, triangles_by

LEFT = 1
RIGHT = -1


def hull(points):
    """The numbers of the points on the hull's edge, turning left from the leftmost one."""
    if in_row(points):
        return left_to_right(points)
    lower, _ = edge(points, RIGHT)
    upper, _ = edge(points, LEFT)
    # Both edges begin and end alike; the upper one is walked back.
    return lower + upper[-2:0:-1]


def spread(points):
    """Triangles that fill the points."""
    _, below = edge(points, RIGHT)
    _, above = edge(points, LEFT)
    # What is cut off below the points turns right as it is told.
    net = above + [(a, c, b) for a, b, c in below]
    return triangles_by(tops_by_step(net))


def fills(points, net):
    """Whether these triangles fill the points."""
    if not net:
        return in_row(points)
    for a, b, c in net:
        if turn(points[a], points[b], points[c]) != LEFT:
            return False
    tops = tops_by_step(net)
    # Steps that are alike have one place among the tops.
    if len(tops) < 3 * len(net):
        return False
    outer = sorted([(a, b) for a, b in tops if (b, a) not in tops])
    standing = sorted({a for a, b in tops})
    return outer == hull_steps(points) and standing == list(range(len(points)))


def in_row(points):
    """Whether all points lie in a row, as one or two always do."""
    return all([turn(points[0], points[1], point) == 0 for point in points[2:]])


def left_to_right(points):
    """The numbers of all points from left to right, of those above each other the lowest first."""
    placed = sorted([(point, number) for number, point in enumerate(points)])
    return [number for point, number in placed]


def edge(points, bend):
    """The edge of the hull, from left to right, that never bends this way: the upper one
    never left, the lower one never right; and the triangles that it cuts off the rest.
    """
    kept = []
    cut = []
    for number in left_to_right(points):
        while len(kept) > 1 and turn(points[kept[-2]], points[kept[-1]], points[number]) == bend:
            passed = kept.pop()
            cut.append((kept[-1], passed, number))
        kept.append(number)
    return kept, cut


def hull_steps(points):
    """The steps from each number of the hull to the next one, as a list that rises."""
    numbers = hull(points)
    return sorted(zip(numbers, numbers[1:] + numbers[:1]))
