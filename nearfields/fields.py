"""What stands round a point, its field, and walks from point to point."""

from nearfields.errors import NoPoint
from nearfields.filling import hull
from nearfields.plane import far, middle
from nearfields.steps import tops_by_step


def around(points, net, number):
    """The numbers of the points round this one, turning left; of points in a row, rising."""
    refuse_no_point(points, number)
    # Only points in a row are filled by no triangle.
    if not net:
        return beside(points, number)
    following = {b: c for (a, b), c in tops_by_step(net).items() if a == number}
    here = first_round(following)
    found = [here]
    # Round a point of the hull the last one is followed by none, round another one by the first.
    while following.get(here, found[0]) != found[0]:
        here = following[here]
        found.append(here)
    return found


def field(points, net, number):
    """The middles of the rings of the triangles in which this point stands, turning left."""
    numbers = around(points, net, number)
    tops = tops_by_step(net)
    # The last one round a point of the hull, and each one in a row, begins no triangle here.
    return [
        middle(points[number], points[b], points[tops[(number, b)]])
        for b in numbers
        if (number, b) in tops
    ]


def walked(points, net, start, spot):
    """The numbers of the points on the walk from the start to the spot."""
    refuse_no_point(points, start)
    walk = [start]
    further = step_to(points, net, start, spot)
    while further is not None:
        walk.append(further)
        further = step_to(points, net, further, spot)
    return walk


def refuse_no_point(points, number):
    """Refuse what is no point's number."""
    # The exact kind is asked for, since True and False would pass as numbers otherwise.
    if type(number) is not int or not 0 <= number < len(points):
        raise NoPoint("this is no point's number")


def beside(points, number):
    """The one or two next to a point among points in a row, rising."""
    row = hull(points)
    at = row.index(number)
    return sorted(row[max(at - 1, 0):at] + row[at + 1:at + 2])


def first_round(following):
    """The first one round a point, told by which one follows which there, turning left."""
    followers = list(following.values())
    for number in following:
        # Only round a point of the hull does one follow none: the next one on the hull.
        if number not in followers:
            return number
    return min(list(following))


def step_to(points, net, number, spot):
    """The one round this point to which a walk to the spot goes on, or None where it ends."""
    gap = far(points[number], spot)
    gaps = [(far(points[other], spot), other) for other in around(points, net, number)]
    nearer = [pair for pair in gaps if pair[0] < gap]
    if not nearer:
        return None
    _, best = min(nearer)
    return best
