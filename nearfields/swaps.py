"""Sides, which of them are wrong, and the swaps that lead from triangles to others."""

from heapq import heappop, heappush

from nearfields.errors import Bent, NoSide
from nearfields.filling import spread
from nearfields.plane import ring, turn
from nearfields.steps import put, tops_by_step, triangles_by


def swapped(points, net, side):
    """The triangles with this side, told either way round, swapped."""
    tops = tops_by_step(net)
    if not is_side(tops, side):
        raise NoSide("this pair is no side of the triangles")
    if is_bent(points, corners(tops, side)):
        raise Bent("the four points do not bulge at each corner")
    swap(tops, side)
    return triangles_by(tops)


def near(points):
    """The near triangles, none of whose sides is wrong."""
    _, triangles = mended(points, spread(points))
    return triangles


def mended(points, net):
    """The sides that were swapped, each the least wrong one, and the near triangles."""
    tops = tops_by_step(net)
    swaps = mend(points, tops)
    return ([gone for gone, come in swaps], triangles_by(tops))


def way(points, one, other):
    """The sides by which, swapped one by one, the first triangles become the others."""
    there = mend(points, tops_by_step(one))
    back = mend(points, tops_by_step(other))
    # A swap is taken back by swapping the side that came of it.
    return [gone for gone, come in there] + [come for gone, come in reversed(back)]


def mend(points, tops):
    """Swap the least wrong side until there is none; each such side with the one that came of it."""
    swaps = []
    # A list that rises is a heap already.
    queue = sorted([(a, b) for a, b in tops if a < b and (b, a) in tops])
    while queue:
        side = heappop(queue)
        # One in the queue may have been swapped or put right since it was put there.
        if is_side(tops, side) and is_wrong(points, tops, side):
            four = corners(tops, side)
            swaps.append((side, swap(tops, side)))
            # Only what lies round a swap can have become wrong by it.
            for a, b in zip(four, four[1:] + four[:1]):
                heappush(queue, least_first(a, b))
    return swaps


def swap(tops, side):
    """Swap this side among the steps; the side that comes of it."""
    a, d, b, c = corners(tops, side)
    del tops[(a, b)]
    del tops[(b, a)]
    put(tops, (a, d, c))
    put(tops, (d, b, c))
    return least_first(c, d)


def is_side(tops, side):
    """Whether both ways along this pair are steps."""
    a, b = side
    return (a, b) in tops and (b, a) in tops


def corners(tops, side):
    """The side's numbers and its tops, turning left round their four-corner."""
    a, b = side
    return (a, tops[(b, a)], b, tops[(a, b)])


def is_bent(points, four):
    """Whether the four-corner does not bulge at each of its corners."""
    a, d, b, c = [points[number] for number in four]
    # At its tops it bulges anyway, since both triangles turn left.
    return turn(c, a, d) != 1 or turn(d, b, c) != 1


def is_wrong(points, tops, side):
    """Whether this side is wrong."""
    a, d, b, c = corners(tops, side)
    place = ring(points[a], points[b], points[c], points[d])
    return place == 1 or (place == 0 and min(a, b, c, d) not in (a, b))


def least_first(a, b):
    """This side with its lesser number first."""
    return (min(a, b), max(a, b))
