"""Points 4 to 7 and nearfields/filling.py: hulls, and triangles that fill the points."""

import unittest
from itertools import combinations, permutations, product
from random import Random

from nearfields.filling import fills, hull, spread
from tests.kinds import assert_numbers, assert_triangles
from tests.plain import all_nets, area, covers, handed, plain_hull, stirred
from tests.samples import ALL, CORNERS, FULL, LARGE, ROWS, SMALL, WIDE_RING, M, grid, shuffled

SQUARE = [(0, 0), (4, 0), (4, 4), (0, 4)]
TRIANGLE_AND_ONE = [(0, 0), (9, 0), (0, 9), (2, 2)]
AMID = [(0, 0), (2, 0), (4, 0), (2, 3)]


class Hulls(unittest.TestCase):
    def told(self, points, expected):
        value = hull(points)
        self.assertEqual(value, expected)
        assert_numbers(self, value)

    def test_turning_left_from_the_leftmost(self):
        self.told([(5, 1), (0, 0), (3, 7)], [1, 0, 2])
        self.told([(5, 1), (3, 7), (0, 0)], [2, 0, 1])
        self.told([(-2, 8), (0, 0), (3, 7), (1, 5)], [0, 1, 2])

    def test_of_several_leftmost_the_lowest(self):
        self.told([(0, 4), (0, 0), (4, 0), (4, 4)], [1, 2, 3, 0])
        self.told([(0, 4), (0, 2), (0, 0), (0, -2), (1, 9)], [3, 4, 0, 1, 2])
        self.told([(0, -2), (5, -9), (0, 4)], [0, 1, 2])

    def test_points_amid_sides_stand_in_it(self):
        self.told(AMID, [0, 1, 2, 3])
        self.told([(2, 2), (0, 0), (0, 2), (4, 0), (2, 0), (0, 4)], [1, 4, 3, 0, 5, 2])
        self.told([(4, 2), (4, 4), (4, 0), (0, 1), (2, 1)], [3, 2, 0, 1])
        self.told(grid(3, 3), [0, 3, 6, 7, 8, 5, 2, 1])

    def test_points_within_do_not(self):
        self.told(TRIANGLE_AND_ONE, [0, 1, 2])
        self.told([(2, 2)] + SQUARE, [1, 2, 3, 4])

    def test_rows_are_told_along_from_the_leftmost_or_lowest(self):
        self.told([(3, -4)], [0])
        self.told([(5, 5), (-1, 7)], [1, 0])
        self.told([(2, 9), (2, -9)], [1, 0])
        self.told([(4, 0), (0, 0), (2, 0), (1, 0), (9, 0)], [1, 3, 2, 0, 4])
        self.told([(1, 3), (1, -2), (1, 8), (1, 0)], [1, 3, 0, 2])
        self.told([(0, 0), (3, -1), (-3, 1), (9, -3), (6, -2)], [2, 0, 1, 4, 3])

    def test_at_the_limits(self):
        self.told(CORNERS, [0, 1, 2, 3])
        self.told(CORNERS + [(0, 0), (M - 1, M), (1 - M, M - 1)], [0, 1, 2, 5, 3])
        self.told([(-M, -M), (M, M), (0, 0), (1, 0)], [0, 3, 1, 2])
        self.told([(-M, -M), (M, M - 1), (M - 1, M - 2), (0, 0)], [0, 2, 1, 3])

    def test_a_ring(self):
        self.told(WIDE_RING, [5, 6, 7, 0, 1, 2, 3, 4])

    def test_each_sample(self):
        for name, points in ALL.items():
            with self.subTest(name=name):
                self.told(points, plain_hull(points))

    def test_each_four_of_a_small_grid(self):
        for points in permutations(grid(3, 3), 4):
            self.assertEqual(hull(list(points)), plain_hull(points))


class Spreads(unittest.TestCase):
    def test_each_sample_is_filled(self):
        for name, points in FULL.items():
            with self.subTest(name=name):
                net = spread(points)
                self.assertTrue(covers(points, net))
                assert_triangles(self, net)

    def test_each_four_of_a_small_grid_is_filled(self):
        for points in permutations(grid(3, 3), 4):
            net = spread(list(points))
            self.assertIn(net, all_nets(points))

    def test_rows_are_filled_by_no_triangle(self):
        for name, points in ROWS.items():
            with self.subTest(name=name):
                self.assertEqual(spread(points), [])
                self.assertIs(type(spread(points)), list)

    def test_where_there_is_one_way(self):
        self.assertEqual(spread([(0, 0), (4, 0), (0, 4)]), [(0, 1, 2)])
        self.assertEqual(spread([(0, 0), (0, 4), (4, 0)]), [(0, 2, 1)])
        self.assertEqual(spread([(4, 0), (0, 4), (0, 0)]), [(0, 1, 2)])
        self.assertEqual(spread(TRIANGLE_AND_ONE), [(0, 1, 3), (0, 3, 2), (1, 2, 3)])
        self.assertEqual(spread(AMID), [(0, 1, 3), (1, 2, 3)])


class Fills(unittest.TestCase):
    def told(self, points, net, expected):
        self.assertIs(fills(points, net), expected)

    def each_list(self, points, triangles, most):
        for many in range(most + 1):
            for net in combinations(triangles, many):
                self.told(points, list(net), covers(points, list(net)))

    def test_what_fills_a_square(self):
        self.told(SQUARE, [(0, 1, 2), (0, 2, 3)], True)
        self.told(SQUARE, [(0, 1, 3), (1, 2, 3)], True)
        self.told(SQUARE, [(2, 3, 0), (1, 2, 0)], True)
        self.told(SQUARE, [(3, 0, 1), (3, 1, 2)], True)

    def test_each_list_that_fills_from_any_number_on_in_any_order(self):
        dice = Random(21)
        for name, points in SMALL.items():
            for net in all_nets(points):
                with self.subTest(name=name, net=net):
                    self.told(points, net, True)
                    self.told(points, handed(net, dice), True)

    def test_large_samples(self):
        dice = Random(22)
        for name, points in LARGE.items():
            with self.subTest(name=name):
                net = stirred(points, spread(points), 30, dice)
                self.assertTrue(covers(points, net))
                self.told(points, handed(net, dice), True)
                self.told(points, net[1:], False)
                self.told(points, net + net[:1], False)
                self.told(points, net[:-1] + net[:1], False)

    def test_a_triangle_too_few_or_one_twice(self):
        dice = Random(23)
        for name, points in SMALL.items():
            net = spread(points)
            for at, (a, b, c) in enumerate(net):
                rest = handed(net[:at] + net[at + 1:], dice)
                with self.subTest(name=name, triangle=(a, b, c)):
                    self.told(points, rest, False)
                    self.told(points, net + [(a, b, c)], False)
                    self.told(points, net + [(b, c, a)], False)
                    self.told(points, net * 2, False)
                    self.told(points, rest + [(a, c, b)], False)
                    self.told(points, net + [(a, c, b)], False)
                    self.told(points, net + [(b, a, c), (a, b, c)], False)

    def test_triangles_that_turn_right_or_not_at_all(self):
        self.told(SQUARE, [(0, 2, 1), (0, 3, 2)], False)
        self.told(SQUARE, [(0, 1, 2), (0, 3, 2)], False)
        self.told(SQUARE, [(0, 1, 2), (0, 2, 3), (0, 0, 0)], False)
        self.told(SQUARE, [(0, 1, 2), (0, 2, 3), (1, 1, 3)], False)
        self.told(SQUARE, [(1, 1, 1)], False)
        self.told(AMID, [(0, 2, 3), (0, 1, 2)], False)
        self.told(AMID, [(0, 1, 3), (1, 2, 3), (0, 2, 1)], False)
        # These swap one side of a dart, so that one triangle is turned over.
        self.told([(0, 4), (-3, -2), (0, 0), (3, -2)], [(0, 1, 3), (1, 2, 3)], False)

    def test_the_empty_list(self):
        for name, points in ALL.items():
            with self.subTest(name=name):
                self.told(points, [], name in ROWS)

    def test_only_the_empty_list_fills_a_row(self):
        for name, points in ROWS.items():
            numbers = range(min(4, len(points)))
            for triangle in product(numbers, repeat=3):
                with self.subTest(name=name, triangle=triangle):
                    self.told(points, [triangle], False)
                    self.told(points, [triangle, triangle], False)

    def test_a_point_in_no_triangle(self):
        self.told(TRIANGLE_AND_ONE, [(0, 1, 2)], False)
        self.told([(2, 2)] + SQUARE, [(1, 2, 3), (1, 3, 4)], False)
        self.told([(2, 2)] + SQUARE, [(1, 2, 4), (2, 3, 4)], False)

    def test_a_point_amid_a_side(self):
        self.told(AMID, [(0, 2, 3)], False)
        # The point 4 lies amid the side of one triangle, and two others share it.
        self.told(SQUARE + [(2, 2)], [(0, 1, 2), (0, 4, 3), (2, 3, 4)], False)
        self.told(SQUARE + [(2, 2)], [(0, 1, 4), (1, 2, 4), (2, 3, 4), (0, 4, 3)], True)

    def test_triangles_that_lie_over_each_other(self):
        self.told(SQUARE, [(0, 1, 2), (0, 1, 3)], False)
        self.told(SQUARE, [(0, 1, 2), (0, 2, 3), (0, 1, 3), (1, 2, 3)], False)
        self.told(SQUARE, [(0, 1, 2), (1, 2, 3)], False)

    def test_each_list_of_triangles_of_a_few_points(self):
        for name, points in SMALL.items():
            if len(points) > 5:
                continue
            triples = [
                triangle
                for triangle in permutations(range(len(points)), 3)
                if triangle[0] == min(triangle)
                and area(*[points[k] for k in triangle]) > 0
            ]
            with self.subTest(name=name):
                self.each_list(points, triples, len(triples))

    def test_each_list_of_triangles_of_four_points_either_way_round(self):
        for points in (SQUARE, TRIANGLE_AND_ONE, AMID, shuffled(SQUARE, 24)):
            triples = [t for t in permutations(range(4), 3) if t[0] == min(t)]
            self.each_list(points, triples, 4)

    def test_numbers_and_triangles_alike(self):
        for net in product(product(range(3), repeat=3), repeat=2):
            self.told([(0, 0), (4, 0), (0, 4)], list(net), False)
        for triangle in product(range(3), repeat=3):
            good = triangle in ((0, 1, 2), (1, 2, 0), (2, 0, 1))
            self.told([(0, 0), (4, 0), (0, 4)], [triangle], good)


if __name__ == "__main__":
    unittest.main()
