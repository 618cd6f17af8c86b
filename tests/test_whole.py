"""What the document promises over the whole program: point 1, and that limits alone refuse nothing."""

import unittest
from copy import deepcopy
from random import Random

from nearfields.fields import around, field, walked
from nearfields.filling import fills, hull, spread
from nearfields.points import checked
from nearfields.swaps import mended, near, swapped, way
from tests.plain import (
    bulges,
    covers,
    four_of,
    handed,
    plain_hull,
    plain_mended,
    sides_of,
    stirred,
    tops_of,
    wrong_sides,
)
from tests.samples import ALL, M, grid, on_ring, scattered


def calls_of(points, dice):
    """Each function that takes points, with what is handed in."""
    one = handed(stirred(points, spread(points), 20, dice), dice)
    other = handed(stirred(points, spread(points), 20, dice), dice)
    near_ones = near(points)
    tops = tops_of(one)
    free = [side for side in sides_of(one) if bulges(points, four_of(tops, side))]
    last = len(points) - 1
    return [
        (checked, points),
        (hull, points),
        (spread, points),
        (fills, points, one),
        (fills, points, one[1:]),
        (near, points),
        (mended, points, one),
        (mended, points, near_ones),
        (way, points, one, other),
        (way, points, one, near_ones),
        (way, points, near_ones, near_ones),
        *[(swapped, points, one, side) for side in free[:3]],
        *[(around, points, one, number) for number in (0, last)],
        *[(field, points, one, number) for number in (0, last)],
        *[(walked, points, one, number, (M, 1)) for number in (0, last)],
    ]


def lists_in(told):
    """What is told, as far as it is a list, or the lists that stand in it."""
    things = told if type(told) is tuple else [told]
    return [thing for thing in things if type(thing) is list]


class HandedIn(unittest.TestCase):
    def test_nothing_is_changed(self):
        dice = Random(51)
        for name, points in ALL.items():
            for call, *args in calls_of(points, dice):
                with self.subTest(name=name, call=call.__name__):
                    before = deepcopy(args)
                    call(*args)
                    self.assertEqual(args, before)

    def test_nothing_is_changed_by_a_refusal(self):
        points = [(0, 0), (4, 0), (4, 4), (0, 4), (2, 2)]
        net = [(4, 0, 1), (0, 4, 3), (1, 2, 4), (2, 3, 4)]
        for call, *args in [
            (swapped, points, net, (0, 1)),
            (swapped, points, net, (0, 4)),
            (around, points, net, 5),
            (field, points, net, 5),
            (walked, points, net, 5, (0, 0)),
        ]:
            with self.subTest(call=call.__name__):
                before = deepcopy(args)
                with self.assertRaises(ValueError):
                    call(*args)
                self.assertEqual(args, before)


class Told(unittest.TestCase):
    def test_each_list_is_a_new_one(self):
        dice = Random(52)
        for name, points in ALL.items():
            for call, *args in calls_of(points, dice):
                with self.subTest(name=name, call=call.__name__):
                    first = call(*args)
                    expected = deepcopy(first)
                    second = call(*args)
                    for one in lists_in(first):
                        for other in lists_in(second) + args:
                            self.assertIsNot(one, other)
                        one.append("more")
                        one.reverse()
                    self.assertEqual(second, expected)
                    self.assertEqual(call(*args), expected)


class BeyondTheLimits(unittest.TestCase):
    def assert_all_works(self, points):
        net = spread(points)
        self.assertEqual(hull(points), plain_hull(points))
        self.assertTrue(covers(points, net))
        self.assertIs(fills(points, net), True)
        self.assertEqual(mended(points, net), plain_mended(points, net))
        triangles = near(points)
        self.assertEqual(wrong_sides(points, triangles), [])
        for number in range(len(points)):
            self.assertGreaterEqual(len(field(points, triangles, number)), 1)
            self.assertEqual(walked(points, triangles, 0, points[number])[-1], number)

    def test_numbers_beyond_the_limits(self):
        self.assert_all_works([(3 * x, 3 * y + 1) for x, y in scattered(12, M, 53)])
        self.assert_all_works([(10**12 * x, 10**12 * y) for x, y in on_ring(5)])

    def test_more_than_forty_points(self):
        self.assert_all_works(scattered(44, 50, 54))
        self.assert_all_works(grid(7, 6))

    def test_spots_beyond_the_limits(self):
        points = [(0, 0), (4, 0), (4, 4), (0, 4)]
        self.assertEqual(walked(points, near(points), 0, (M + 1, 10**30)), [0, 2])
        self.assertEqual(walked(points, near(points), 2, (-(10**30), -M - 1)), [2, 0])
        self.assertEqual(walked(points, near(points), 1, (-(10**30), 10**30)), [1, 0, 3])


if __name__ == "__main__":
    unittest.main()
