"""Points 2 and 3 and nearfields/plane.py: turns, distances, rings and their middles."""

import unittest
from fractions import Fraction
from itertools import permutations, product
from math import gcd

from nearfields.errors import InRow
from nearfields.plane import far, middle, ring, turn
from tests.plain import area, centre, gap
from tests.refusals import assert_refused
from tests.samples import WIDE_RING, M

GRID = list(product(range(3), repeat=2))

IN_ROW = [
    ((0, 0), (1, 1), (2, 2)),
    ((0, 0), (2, 2), (1, 1)),
    ((5, 0), (5, -3), (5, 9)),
    ((-2, 7), (0, 7), (3, 7)),
    ((0, 0), (2, 3), (4, 6)),
    ((-M, -M), (0, 0), (M, M)),
    ((-M, M), (0, 0), (M, -M)),
    ((-M, -M), (-M, M), (-M, 0)),
    ((0, 0), (0, 0), (3, 4)),
    ((0, 0), (3, 4), (0, 0)),
    ((3, 4), (0, 0), (0, 0)),
    ((0, 0), (0, 0), (0, 0)),
    ((M, -M), (M, -M), (M, -M)),
    ((M, -M), (M, -M), (-M, M)),
]


def moved(points, across, up):
    return [(x + across, y + up) for x, y in points]


def ring_by_distances(a, b, c, d):
    at = centre(a, b, c)
    out, radius = gap(at, d), gap(at, a)
    return (out < radius) - (out > radius)


class Turns(unittest.TestCase):
    def told(self, value, expected):
        self.assertEqual(value, expected)
        self.assertIs(type(value), int)

    def test_left(self):
        self.told(turn((0, 0), (1, 0), (1, 1)), 1)
        self.told(turn((0, 0), (1, 0), (0, 1)), 1)
        self.told(turn((0, 0), (4, 1), (5, 2)), 1)
        self.told(turn((3, 3), (3, 5), (-7, 4)), 1)

    def test_right(self):
        self.told(turn((0, 0), (1, 0), (1, -1)), -1)
        self.told(turn((0, 0), (0, 1), (1, 0)), -1)
        self.told(turn((0, 0), (4, 1), (9, 2)), -1)
        self.told(turn((3, 5), (3, 3), (-7, 4)), -1)

    def test_neither(self):
        for a, b, c in IN_ROW:
            with self.subTest(a=a, b=b, c=c):
                self.told(turn(a, b, c), 0)

    def test_each_three_of_a_small_grid(self):
        for a, b, c in product(GRID, repeat=3):
            doubled = area(a, b, c)
            self.told(turn(a, b, c), (doubled > 0) - (doubled < 0))

    def test_which_way_round_the_three_are_told(self):
        a, b, c = (-4, 2), (7, 3), (1, 8)
        for told in ((a, b, c), (b, c, a), (c, a, b)):
            self.told(turn(*told), 1)
        for told in ((c, b, a), (b, a, c), (a, c, b)):
            self.told(turn(*told), -1)

    def test_numbers_as_far_apart_as_they_may_be(self):
        self.told(turn((-M, -M), (M, -M), (M, M)), 1)
        self.told(turn((-M, -M), (-M, M), (M, M)), -1)
        self.told(turn((-M, -M), (M, M), (M, M - 1)), -1)
        self.told(turn((-M, -M), (M, M), (M - 1, M)), 1)
        self.told(turn((-M, -M), (M, M), (1, 0)), -1)
        self.told(turn((-M, -M), (M, M), (0, 1)), 1)
        self.told(turn((-M, -M), (M - 1, M - 2), (M, M - 1)), 1)
        self.told(turn((-M, -M), (M, M - 1), (M - 1, M - 2)), -1)


class Distances(unittest.TestCase):
    def test_distances(self):
        self.assertEqual(far((0, 0), (3, 4)), 25)
        self.assertEqual(far((1, 1), (2, 1)), 1)
        self.assertEqual(far((1, 1), (1, -1)), 4)
        self.assertEqual(far((-2, 5), (3, -7)), 169)
        self.assertEqual(far((0, 0), (1, 1)), 2)

    def test_either_way_round(self):
        for a, b in product(GRID, repeat=2):
            self.assertEqual(far(a, b), gap(a, b))
            self.assertEqual(far(a, b), far(b, a))

    def test_points_alike(self):
        self.assertEqual(far((0, 0), (0, 0)), 0)
        self.assertEqual(far((-M, M), (-M, M)), 0)

    def test_numbers_as_far_apart_as_they_may_be(self):
        self.assertEqual(far((-M, -M), (M, M)), 8000000000000)
        self.assertEqual(far((M, -M), (-M, M)), 8000000000000)
        self.assertEqual(far((-M, 0), (M, 1)), 4000000000001)
        self.assertEqual(far((-M, -M), (M - 1, M)), 7999996000001)

    def test_a_whole_number_is_told(self):
        self.assertIs(type(far((0, 0), (3, 4))), int)


class Rings(unittest.TestCase):
    def each_way_round(self, three, d, expected):
        for a, b, c in permutations(three):
            with self.subTest(a=a, b=b, c=c, d=d):
                value = ring(a, b, c, d)
                self.assertEqual(value, expected)
                self.assertIs(type(value), int)

    def test_within(self):
        self.each_way_round([(0, 0), (4, 0), (0, 4)], (1, 1), 1)
        self.each_way_round([(0, 0), (4, 0), (0, 4)], (3, 3), 1)
        self.each_way_round([(0, 0), (4, 0), (0, 4)], (2, 0), 1)
        self.each_way_round([(5, 0), (-3, 4), (0, -5)], (-4, 2), 1)

    def test_on_it(self):
        self.each_way_round([(0, 0), (4, 0), (0, 4)], (4, 4), 0)
        self.each_way_round([(5, 0), (-3, 4), (0, -5)], (-4, 3), 0)
        self.each_way_round([(5, 0), (-3, 4), (0, -5)], (4, -3), 0)

    def test_one_of_the_three_is_on_it(self):
        three = [(-2, 9), (7, 1), (6, -8)]
        for d in three:
            self.each_way_round(three, d, 0)

    def test_outside(self):
        self.each_way_round([(0, 0), (4, 0), (0, 4)], (5, 4), -1)
        self.each_way_round([(0, 0), (4, 0), (0, 4)], (-1, 0), -1)
        self.each_way_round([(0, 0), (4, 0), (0, 4)], (8, 0), -1)
        self.each_way_round([(5, 0), (-3, 4), (0, -5)], (-4, 4), -1)

    def test_each_four_of_a_small_grid(self):
        for a, b, c in product(GRID, repeat=3):
            if area(a, b, c) == 0:
                continue
            for d in GRID:
                self.assertEqual(ring(a, b, c, d), ring_by_distances(a, b, c, d))

    def test_a_ring_as_wide_as_the_limits(self):
        for a, b, c in permutations(WIDE_RING, 3):
            for x, y in WIDE_RING:
                self.assertEqual(ring(a, b, c, (x, y)), 0)
                inward = (x - (x > 0) + (x < 0), y - (y > 0) + (y < 0))
                self.assertEqual(ring(a, b, c, inward), 1)
                outward = (x + (x > 0) - (x < 0), y + (y > 0) - (y < 0))
                self.assertEqual(ring(a, b, c, outward), -1)

    def test_the_corners_of_the_limits(self):
        three = [(-M, -M), (M, -M), (M, M)]
        self.each_way_round(three, (-M, M), 0)
        self.each_way_round(three, (-M, M - 1), 1)
        self.each_way_round(three, (1 - M, M), 1)
        self.each_way_round(three, (0, 0), 1)
        self.each_way_round(three, (-M - 1, M), -1)

    def test_a_narrow_triangle_whose_ring_is_wide(self):
        three = [(-M, -M), (0, 0), (M, M - 1)]
        for d in ((M, M), (-M, M), (0, 1), (M, -M), (0, -1), (1, 1), (-1, -1), (M - 1, M - 2)):
            self.each_way_round(three, d, ring_by_distances(*three, d))
        self.each_way_round(three, (0, 1), -1)
        self.each_way_round(three, (M, -M), 1)

    def test_a_small_ring_far_from_the_origin(self):
        three = moved([(0, 0), (1, 0), (0, 1)], M - 1, -M)
        self.each_way_round(three, (M, 1 - M), 0)
        self.each_way_round(three, (M, 2 - M), -1)
        self.each_way_round(moved([(0, 0), (2, 0), (0, 2)], M - 2, -M), (M - 1, 1 - M), 1)

    def test_three_in_a_row_are_refused(self):
        for a, b, c in IN_ROW:
            for d in ((0, 0), (1, 0), (M, M), a, b, c):
                with self.subTest(a=a, b=b, c=c, d=d):
                    assert_refused(self, InRow, ring, a, b, c, d)

    def test_only_the_first_three_may_not_lie_in_a_row(self):
        self.assertEqual(ring((0, 0), (2, 0), (1, 5), (1, 0)), 1)
        self.assertEqual(ring((0, 0), (2, 0), (1, 5), (3, 0)), -1)


class Middles(unittest.TestCase):
    def each_order(self, three, expected):
        for a, b, c in permutations(three):
            with self.subTest(a=a, b=b, c=c):
                told = middle(a, b, c)
                self.assertEqual(told, expected)
                self.assertIs(type(told), tuple)
                self.assertEqual([type(number) for number in told], [int, int, int])

    def assert_middle(self, told, three):
        x, y, w = told
        self.assertGreater(w, 0)
        self.assertEqual(gcd(x, y, w), 1)
        gaps = [(x - w * p) ** 2 + (y - w * q) ** 2 for p, q in three]
        self.assertEqual(gaps, [gaps[0]] * 3)

    def test_a_middle_at_whole_numbers(self):
        self.each_order([(0, 0), (4, 0), (0, 4)], (2, 2, 1))
        self.each_order([(5, 0), (-3, 4), (0, -5)], (0, 0, 1))
        self.each_order([(-1, -6), (-1, -2), (1, -4)], (-1, -4, 1))

    def test_a_middle_at_parts(self):
        self.each_order([(0, 0), (1, 0), (0, 1)], (1, 1, 2))
        self.each_order([(0, 0), (2, 0), (1, 5)], (5, 12, 5))
        self.each_order([(0, 0), (-2, 0), (-1, -5)], (-5, -12, 5))
        self.each_order([(0, 0), (1, 0), (0, 2)], (1, 2, 2))

    def test_a_number_that_goes_into_two_of_the_three_stays(self):
        self.each_order([(0, 0), (1, 0), (0, 4)], (1, 4, 2))
        self.each_order([(0, 0), (4, 0), (0, 1)], (4, 1, 2))
        self.each_order([(0, 0), (6, 0), (0, 10)], (3, 5, 1))

    def test_nought_among_the_numbers(self):
        self.each_order([(-1, 0), (1, 0), (0, 1)], (0, 0, 1))
        self.each_order([(-1, 0), (1, 0), (0, 2)], (0, 3, 4))
        self.each_order([(0, -1), (0, 1), (-2, 0)], (-3, 0, 4))

    def test_each_three_of_a_small_grid(self):
        for across, up in ((0, 0), (-1, -1), (-9, 4), (M - 2, -M)):
            for three in product(moved(GRID, across, up), repeat=3):
                if area(*three) == 0:
                    continue
                told = middle(*three)
                self.assert_middle(told, three)
                at = centre(*three)
                self.assertEqual((Fraction(told[0], told[2]), Fraction(told[1], told[2])), at)

    def test_a_ring_as_wide_as_the_limits(self):
        for three in permutations(WIDE_RING, 3):
            self.assertEqual(middle(*three), (0, 0, 1))

    def test_narrow_triangles_as_long_as_the_limits(self):
        for three in (
            [(-M, -M), (0, 0), (M, M - 1)],
            [(-M, -M), (M - 1, M - 2), (M, M - 1)],
            [(-M, M), (M, -M), (M, 1 - M)],
            [(-M, 0), (M, 0), (0, 1)],
            [(-M, 0), (M, 0), (0, -1)],
            [(-3, 1), (832037, 514230), (514226, 317812)],
            [(-3, -1), (-514232, 832039), (-317814, 514228)],
        ):
            for order in permutations(three):
                with self.subTest(order=order):
                    self.assert_middle(middle(*order), three)
        self.each_order([(-M, 0), (M, 0), (0, 1)], (0, 1 - M * M, 2))
        self.each_order([(-M, 0), (M, 0), (0, -1)], (0, M * M - 1, 2))
        self.each_order([(0, -M), (0, M), (1, 0)], (1 - M * M, 0, 2))

    def test_three_in_a_row_are_refused(self):
        for a, b, c in IN_ROW:
            with self.subTest(a=a, b=b, c=c):
                assert_refused(self, InRow, middle, a, b, c)


if __name__ == "__main__":
    unittest.main()
