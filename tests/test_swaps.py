"""Points 7 to 12 and nearfields/swaps.py: sides, swaps, near triangles and ways between any."""

import unittest
from itertools import permutations, product
from random import Random

from nearfields.errors import Bent, NoSide
from nearfields.filling import fills, spread
from nearfields.swaps import mended, near, swapped, way
from tests.kinds import assert_sides, assert_triangles
from tests.plain import (
    all_nets,
    bulges,
    covers,
    depth,
    four_of,
    handed,
    plain_mended,
    plain_near,
    plain_swapped,
    sides_of,
    stirred,
    tops_of,
    wrong_sides,
)
from tests.refusals import assert_refused
from tests.samples import ALL, CORNERS, LARGE, ROWS, SMALL, WIDE_RING, M, grid, shuffled

SQUARE = [(0, 0), (4, 0), (4, 4), (0, 4)]
KITE = [(0, 0), (2, 1), (6, 0), (2, -1)]
NO_SIDES = [(0, 9), (9, 0), (-1, 0), (0, -1), (-1, -1), (-4, -2), (40, 41), (10**30, 0), (0, -(10**30))]


class Swaps(unittest.TestCase):
    def told(self, points, net, side, expected):
        value = swapped(points, net, side)
        self.assertEqual(value, expected)
        assert_triangles(self, value)

    def test_a_square(self):
        across, other = [(0, 1, 2), (0, 2, 3)], [(0, 1, 3), (1, 2, 3)]
        self.told(SQUARE, across, (0, 2), other)
        self.told(SQUARE, across, (2, 0), other)
        self.told(SQUARE, other, (1, 3), across)
        self.told(SQUARE, other, (3, 1), across)

    def test_triangles_from_any_number_on_in_any_order(self):
        other = [(0, 1, 3), (1, 2, 3)]
        self.told(SQUARE, [(2, 3, 0), (1, 2, 0)], (0, 2), other)
        self.told(SQUARE, [(2, 0, 1), (3, 0, 2)], (2, 0), other)

    def test_the_triangles_beside_it_stay(self):
        points = [(0, 0), (4, 0), (4, 4), (0, 4), (2, 9), (2, -9)]
        net = [(0, 1, 2), (0, 2, 3), (0, 5, 1), (2, 4, 3)]
        self.told(points, net, (0, 2), [(0, 1, 3), (0, 5, 1), (1, 2, 3), (2, 4, 3)])
        self.told(points, net, (1, 0), [(0, 2, 3), (0, 5, 2), (1, 2, 5), (2, 4, 3)])

    def test_a_pair_that_is_no_side(self):
        net = [(0, 1, 2), (0, 2, 3)]
        for side in [(0, 1), (1, 0), (1, 2), (3, 0), (1, 3), (3, 1), (0, 0), (2, 2), *NO_SIDES]:
            with self.subTest(side=side):
                assert_refused(self, NoSide, swapped, SQUARE, net, side)

    def test_points_in_a_row_have_no_sides(self):
        for name, points in ROWS.items():
            for side in [(0, 1), (1, 0), (0, 0), (1, 2), *NO_SIDES]:
                with self.subTest(name=name, side=side):
                    assert_refused(self, NoSide, swapped, points, [], side)

    def test_a_four_corner_with_a_dent(self):
        dart = [(0, 4), (-3, -2), (0, 0), (3, -2)]
        net = [(0, 1, 2), (0, 2, 3), (1, 3, 2)]
        for side in permutations(range(4), 2):
            with self.subTest(side=side):
                kind = Bent if 2 in side else NoSide
                assert_refused(self, kind, swapped, dart, net, side)

    def test_a_corner_in_a_row_does_not_bulge(self):
        # The corner at 1 lies amid the two tops.
        points = [(0, 0), (2, 0), (4, 0), (2, 3)]
        net = [(0, 1, 3), (1, 2, 3)]
        assert_refused(self, Bent, swapped, points, net, (1, 3))
        assert_refused(self, Bent, swapped, points, net, (3, 1))
        middle = SQUARE + [(2, 2)]
        net = [(0, 1, 4), (1, 2, 4), (2, 3, 4), (0, 4, 3)]
        for number in range(4):
            assert_refused(self, Bent, swapped, middle, net, (number, 4))
            assert_refused(self, Bent, swapped, middle, net, (4, number))

    def test_a_corner_just_bulging_at_the_limits(self):
        flat = [(-M, -M), (0, 0), (M, M), (-M, M)]
        net = [(0, 1, 3), (1, 2, 3)]
        assert_refused(self, Bent, swapped, flat, net, (1, 3))
        bulging = [(-M, -M), (1, 0), (M, M), (-M, M)]
        self.told(bulging, net, (1, 3), [(0, 1, 2), (0, 2, 3)])
        dented = [(-M, -M), (0, 1), (M, M), (-M, M)]
        net = [(0, 1, 3), (0, 2, 1), (1, 2, 3)]
        assert_refused(self, Bent, swapped, dented, net, (1, 3))

    def test_each_pair_in_each_list_that_fills(self):
        dice = Random(31)
        for name, points in SMALL.items():
            numbers = range(-1, len(points) + 1)
            for net, side in product(all_nets(points), product(numbers, repeat=2)):
                with self.subTest(name=name, net=net, side=side):
                    given = handed(net, dice)
                    if tuple(sorted(side)) not in sides_of(net):
                        assert_refused(self, NoSide, swapped, points, given, side)
                    elif not bulges(points, four_of(tops_of(net), side)):
                        assert_refused(self, Bent, swapped, points, given, side)
                    else:
                        self.told(points, given, side, plain_swapped(net, side))

    def test_each_side_of_large_samples(self):
        dice = Random(32)
        for name, points in LARGE.items():
            net = stirred(points, spread(points), 20, dice)
            for side in sides_of(net):
                with self.subTest(name=name, side=side):
                    if bulges(points, four_of(tops_of(net), side)):
                        value = swapped(points, handed(net, dice), side)
                        self.assertEqual(value, plain_swapped(net, side))
                        tops = four_of(tops_of(net), side)[1::2]
                        self.assertEqual(swapped(points, value, tuple(tops)), net)
                    else:
                        assert_refused(self, Bent, swapped, points, net, side)


class Near(unittest.TestCase):
    def told(self, points, expected):
        value = near(points)
        self.assertEqual(value, expected)
        assert_triangles(self, value)

    def test_the_shorter_way_across_a_kite(self):
        self.told(KITE, [(0, 3, 1), (1, 3, 2)])
        self.told([(0, 0), (2, 3), (4, 0), (2, -3)], [(0, 2, 1), (0, 3, 2)])

    def test_on_one_ring_all_have_the_least_number(self):
        self.told(SQUARE, [(0, 1, 2), (0, 2, 3)])
        self.told([(4, 0), (0, 0), (4, 4), (0, 4)], [(0, 2, 3), (0, 3, 1)])
        self.told([(0, 0), (4, 4), (4, 0), (0, 4)], [(0, 1, 3), (0, 2, 1)])
        self.told(CORNERS, [(0, 1, 2), (0, 2, 3)])
        self.told(WIDE_RING, [(0, k, k + 1) for k in range(1, 7)])
        self.told(WIDE_RING[::-1], [(0, k + 1, k) for k in range(1, 7)])

    def test_rings_side_by_side_each_have_their_own_least_number(self):
        points = [(0, 0), (2, 0), (2, 2), (0, 2), (4, 0), (4, 2)]
        self.told(points, [(0, 1, 2), (0, 2, 3), (1, 4, 5), (1, 5, 2)])
        self.told(points[::-1], [(0, 3, 4), (0, 4, 1), (2, 4, 3), (2, 5, 4)])

    def test_a_point_just_within_or_just_outside_of_a_ring(self):
        self.told([(-M, -M), (M, -M), (M, M), (-M, M - 1)], [(0, 1, 3), (1, 2, 3)])
        self.told([(-M, -M), (M, 1 - M), (M, M), (-M, M)], [(0, 1, 3), (1, 2, 3)])
        self.told([(1 - M, -M), (M, -M), (M, M), (-M, M)], [(0, 1, 2), (0, 2, 3)])

    def test_where_there_is_one_way(self):
        self.told([(0, 0), (4, 0), (0, 4)], [(0, 1, 2)])
        self.told([(4, 0), (0, 0), (0, 4)], [(0, 2, 1)])
        self.told([(0, 0), (2, 0), (4, 0), (2, 3)], [(0, 1, 3), (1, 2, 3)])
        self.told(SQUARE + [(2, 2)], [(0, 1, 4), (0, 4, 3), (1, 2, 4), (2, 3, 4)])

    def test_rows(self):
        for name, points in ROWS.items():
            with self.subTest(name=name):
                self.told(points, [])

    def test_each_sample(self):
        for name, points in ALL.items():
            with self.subTest(name=name):
                self.told(points, plain_near(points))

    def test_each_four_of_a_small_grid(self):
        for points in permutations(grid(3, 3), 4):
            self.assertEqual(near(list(points)), plain_near(points))

    def test_they_fill_the_points(self):
        for name, points in ALL.items():
            with self.subTest(name=name):
                self.assertTrue(covers(points, near(points)))
                self.assertTrue(fills(points, near(points)))

    def test_no_point_lies_within_a_ring(self):
        for name, points in ALL.items():
            for a, b, c in near(points):
                three = points[a], points[b], points[c]
                with self.subTest(name=name, three=three):
                    self.assertLessEqual(max(depth(*three, point) for point in points), 0)

    def test_just_one_list_has_no_wrong_side(self):
        for name, points in SMALL.items():
            with self.subTest(name=name):
                right = [net for net in all_nets(points) if not wrong_sides(points, net)]
                self.assertEqual(right, [near(points)])


class Mended(unittest.TestCase):
    def told(self, points, net, expected):
        value = mended(points, net)
        self.assertIs(type(value), tuple)
        self.assertEqual(value, expected)
        sides, triangles = value
        assert_sides(self, sides)
        assert_triangles(self, triangles)

    def test_one_wrong_side(self):
        self.told(KITE, [(0, 2, 1), (0, 3, 2)], ([(0, 2)], [(0, 3, 1), (1, 3, 2)]))
        self.told(SQUARE, [(0, 1, 3), (1, 2, 3)], ([(1, 3)], [(0, 1, 2), (0, 2, 3)]))
        self.told(SQUARE, [(3, 1, 2), (1, 3, 0)], ([(1, 3)], [(0, 1, 2), (0, 2, 3)]))

    def test_none(self):
        self.told(KITE, [(0, 3, 1), (1, 3, 2)], ([], [(0, 3, 1), (1, 3, 2)]))
        self.told(SQUARE, [(2, 3, 0), (2, 0, 1)], ([], [(0, 1, 2), (0, 2, 3)]))

    def test_each_time_the_least_wrong_one(self):
        # On one ring a side is wrong that has not the least number of its four-corner.
        points = WIDE_RING[:6]
        fan = [(0, 1, 2), (0, 2, 3), (0, 3, 4), (0, 4, 5)]
        net = [(0, 1, 5), (1, 2, 5), (2, 3, 5), (3, 4, 5)]
        self.told(points, net, ([(1, 5), (2, 5), (3, 5)], fan))
        # The side (1, 3) gets wrong by the first swap, and comes before the one that was.
        net = [(0, 1, 5), (1, 2, 3), (1, 3, 5), (3, 4, 5)]
        self.told(points, net, ([(1, 5), (1, 3), (3, 5)], fan))
        net = [(0, 1, 5), (1, 2, 3), (1, 3, 4), (1, 4, 5)]
        self.told(points, net, ([(1, 5), (1, 4), (1, 3)], fan))

    def test_rows(self):
        for name, points in ROWS.items():
            with self.subTest(name=name):
                self.told(points, [], ([], []))

    def test_each_list_that_fills(self):
        dice = Random(33)
        for name, points in SMALL.items():
            for net in all_nets(points):
                with self.subTest(name=name, net=net):
                    self.told(points, handed(net, dice), plain_mended(points, net))

    def test_large_samples(self):
        dice = Random(34)
        for name, points in LARGE.items():
            net = stirred(points, spread(points), 200, dice)
            with self.subTest(name=name):
                self.told(points, handed(net, dice), plain_mended(points, net))

    def test_the_sides_lead_there_one_by_one(self):
        dice = Random(35)
        for name, points in LARGE.items():
            net = stirred(points, spread(points), 60, dice)
            with self.subTest(name=name):
                sides, triangles = mended(points, net)
                for side in sides:
                    self.assertEqual(side, min(wrong_sides(points, net)))
                    net = swapped(points, net, side)
                self.assertEqual(net, triangles)

    def test_whichever_wrong_side_is_taken(self):
        dice = Random(36)
        for name, points in {**SMALL, **LARGE}.items():
            for _ in range(2):
                net = stirred(points, spread(points), 40, dice)
                while wrong := wrong_sides(points, net):
                    net = swapped(points, net, dice.choice(wrong))
                with self.subTest(name=name):
                    self.assertEqual(net, near(points))


class Ways(unittest.TestCase):
    def leads(self, points, one, other, dice):
        sides = way(points, handed(one, dice), handed(other, dice))
        assert_sides(self, sides)
        net = one
        for side in sides:
            net = swapped(points, net, side)
        self.assertEqual(net, other)

    def test_from_each_list_that_fills_to_each(self):
        dice = Random(37)
        for name, points in SMALL.items():
            for one, other in product(all_nets(points), repeat=2):
                with self.subTest(name=name, one=one, other=other):
                    self.leads(points, one, other, dice)

    def test_large_samples(self):
        dice = Random(38)
        for name, points in LARGE.items():
            one = stirred(points, spread(points), 200, dice)
            other = stirred(points, spread(points), 200, dice)
            with self.subTest(name=name):
                self.leads(points, one, other, dice)
                self.leads(points, other, near(points), dice)
                self.leads(points, near(points), one, dice)
                self.leads(points, one, one, dice)

    def test_where_there_is_nothing_to_swap(self):
        for name, points in ROWS.items():
            with self.subTest(name=name):
                self.assertEqual(way(points, [], []), [])
        for points in ([(0, 0), (4, 0), (0, 4)], SQUARE + [(2, 2)]):
            self.assertEqual(way(points, near(points), near(points)), [])

    def test_a_bow_from_a_fan_to_a_fan(self):
        points = shuffled([(k, k * k) for k in range(12)], 39)
        order = sorted(range(12), key=lambda k: points[k])
        fans = []
        for hub in (order[0], order[5], order[-1]):
            at = order.index(hub)
            rest = order[at + 1:] + order[:at]
            fans.append(sorted(min((hub, b, c), (b, c, hub), (c, hub, b)) for b, c in zip(rest, rest[1:])))
        for one, other in permutations(fans, 2):
            self.leads(points, one, other, Random(40))


if __name__ == "__main__":
    unittest.main()
