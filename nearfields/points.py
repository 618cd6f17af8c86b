"""The points that are handed in, and what is refused among them."""

from nearfields.errors import BadCount, BadPoint, Twice

FEWEST = 1
MOST = 40
LOWEST = -1000000
HIGHEST = 1000000


def checked(points):
    """A new list of the same points."""
    if not is_good_list(points):
        raise BadCount(f"not a list of {FEWEST} to {MOST} things")
    for place, thing in enumerate(points):
        if not is_point(thing):
            raise BadPoint(f"what stands at {place} is no point")
    if len(set(points)) < len(points):
        raise Twice("two points are alike")
    return list(points)


# The exact kind is asked for, here and below: True and False would pass as
# numbers otherwise, and kinds derived from these may count and compare oddly.
def is_good_list(points):
    """Whether this is a list of as many things as there may be points."""
    return type(points) is list and FEWEST <= len(points) <= MOST


def is_point(thing):
    """Whether this is a tuple of two whole numbers within the limits."""
    if type(thing) is not tuple or len(thing) != 2:
        return False
    x, y = thing
    return is_place(x) and is_place(y)


def is_place(thing):
    """Whether this is a whole number within the limits."""
    return type(thing) is int and LOWEST <= thing <= HIGHEST
