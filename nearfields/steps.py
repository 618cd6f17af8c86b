"""The steps of triangles, and the triangles that are told by their steps."""


def tops_by_step(net):
    """Each step of the triangles, with the third number of its triangle."""
    tops = {}
    for triangle in net:
        put(tops, triangle)
    return tops


def put(tops, triangle):
    """Put the steps of this triangle among the others."""
    a, b, c = triangle
    tops[(a, b)] = c
    tops[(b, c)] = a
    tops[(c, a)] = b


def triangles_by(tops):
    """The triangles of these steps, each with its least number first, as a list that rises."""
    # Each triangle stands here by three steps; just one of them begins with its least number.
    return sorted([(a, b, c) for (a, b), c in tops.items() if a < b and a < c])
