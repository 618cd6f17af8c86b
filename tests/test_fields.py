"""Points 13 to 16 and nearfields/fields.py: what stands round a point, its field, and walks."""

import unittest
from decimal import Decimal
from fractions import Fraction
from itertools import permutations, product
from math import gcd
from random import Random

from nearfields.errors import NoPoint
from nearfields.fields import around, field, walked
from nearfields.filling import hull, spread
from nearfields.swaps import near
from tests.kinds import assert_numbers, assert_tuples
from tests.plain import all_nets, centre, gap, handed, plain_around, plain_walked, stirred
from tests.refusals import Stubborn, assert_refused
from tests.samples import ALL, CORNERS, FULL, LARGE, ROWS, SMALL, M, grid, scattered

SQUARE = [(0, 0), (4, 0), (4, 4), (0, 4)]
ACROSS = [(0, 1, 2), (0, 2, 3)]
# The point 4 is the middle.
CROSS = SQUARE + [(2, 2)]
CROSS_NET = [(0, 1, 4), (0, 4, 3), (1, 2, 4), (2, 3, 4)]
FLAT = [(4, 0), (0, 0), (2, 0), (1, 0), (9, 0)]

NO_NUMBERS = [
    None,
    True,
    False,
    -1,
    -2,
    -40,
    40,
    41,
    10**30,
    -(10**30),
    0.0,
    1.0,
    -0.0,
    float("nan"),
    float("inf"),
    0j,
    Fraction(0),
    Decimal(1),
    "",
    "0",
    "1",
    b"",
    b"0",
    (),
    (0,),
    (0, 0),
    [],
    [0],
    {},
    {0: 0},
    {0},
    frozenset({1}),
    range(1),
    iter([0]),
    object(),
    Stubborn(),
    int,
    len,
]


def assert_no_point(case, call):
    """The call, with whatever is no point's number of up to 40 points, is refused."""
    for place, thing in enumerate(NO_NUMBERS):
        with case.subTest(place=place):
            assert_refused(case, NoPoint, call, thing)


def nets_of(points, dice):
    """Some lists of triangles that fill the points, handed in one way or another."""
    return [handed(net, dice) for net in (near(points), stirred(points, spread(points), 30, dice))]


def spots_of(points, dice):
    """The points themselves, some spots among and beyond them, and the ends of the limits."""
    reach = max(max(abs(x), abs(y)) for x, y in points) + 1
    far_off = min(2 * reach, M)
    spots = [(dice.randint(-far_off, far_off), dice.randint(-far_off, far_off)) for _ in range(12)]
    return points + [spot for spot in spots if spot not in points] + CORNERS


class Around(unittest.TestCase):
    def told(self, points, net, number, expected):
        value = around(points, net, number)
        self.assertEqual(value, expected)
        assert_numbers(self, value)

    def test_on_the_hull_from_the_next_to_the_one_ahead(self):
        for number, expected in enumerate([[1, 2, 3], [2, 0], [3, 0, 1], [0, 2]]):
            self.told(SQUARE, ACROSS, number, expected)
        for number, expected in enumerate([[1, 4, 3], [2, 4, 0], [3, 4, 1], [0, 4, 2]]):
            self.told(CROSS, CROSS_NET, number, expected)

    def test_off_the_hull_from_the_least_on(self):
        self.told(CROSS, CROSS_NET, 4, [0, 1, 2, 3])
        turned = [(2, 2), (4, 4), (0, 0), (4, 0), (0, 4)]
        self.told(turned, [(0, 1, 4), (0, 4, 2), (2, 3, 0), (1, 0, 3)], 0, [1, 4, 2, 3])

    def test_amid_a_side_of_the_hull(self):
        points = [(2, 3), (4, 0), (0, 0), (2, 0), (2, 1)]
        net = [(2, 3, 4), (3, 1, 4), (1, 0, 4), (0, 2, 4)]
        self.told(points, net, 3, [1, 4, 2])
        self.told(points, net, 1, [0, 4, 3])
        self.told(points, net, 2, [3, 4, 0])
        self.told(points, net, 4, [0, 2, 3, 1])

    def test_triangles_from_any_number_on_in_any_order(self):
        for number, expected in enumerate([[1, 2, 3], [2, 0], [3, 0, 1], [0, 2]]):
            self.told(SQUARE, [(3, 0, 2), (1, 2, 0)], number, expected)

    def test_in_a_row_they_rise(self):
        for number, expected in enumerate([[2, 4], [3], [0, 3], [1, 2], [0]]):
            self.told(FLAT, [], number, expected)
        self.told([(0, 5), (0, 0), (0, 9)], [], 0, [1, 2])
        self.told([(0, 5), (0, 9), (0, 0)], [], 0, [1, 2])
        self.told([(5, 5), (-1, 7)], [], 0, [1])
        self.told([(5, 5), (-1, 7)], [], 1, [0])

    def test_round_one_point_there_is_none(self):
        self.told([(3, -4)], [], 0, [])
        self.told([(M, M)], [], 0, [])

    def test_each_list_that_fills(self):
        dice = Random(41)
        for name, points in SMALL.items():
            for net, number in product(all_nets(points), range(len(points))):
                with self.subTest(name=name, net=net, number=number):
                    self.told(points, handed(net, dice), number, plain_around(points, net, number))

    def test_large_samples_and_rows(self):
        dice = Random(42)
        for name, points in {**LARGE, **ROWS}.items():
            for net in nets_of(points, dice):
                for number in range(len(points)):
                    with self.subTest(name=name, number=number):
                        self.told(points, net, number, plain_around(points, net, number))

    def test_what_is_no_number(self):
        for points in ALL.values():
            net = spread(points)
            assert_no_point(self, lambda number: around(points, net, number))
            assert_refused(self, NoPoint, around, points, net, len(points))
            assert_refused(self, NoPoint, around, points, net, -len(points))


class Fields(unittest.TestCase):
    def told(self, points, net, number, expected):
        value = field(points, net, number)
        self.assertEqual(value, expected)
        assert_tuples(self, value, 3)
        for x, y, w in value:
            self.assertGreater(w, 0)
            self.assertEqual(gcd(x, y, w), 1)

    def assert_field(self, points, net, number):
        value = field(points, net, number)
        assert_tuples(self, value, 3)
        # Off the hull the last one round the point stands in a triangle with the first.
        ones = plain_around(points, net, number)
        others = ones[1:] if number in hull(points) else ones[1:] + ones[:1]
        expected = [centre(points[number], points[b], points[c]) for b, c in zip(ones, others)]
        self.assertEqual([(Fraction(x, w), Fraction(y, w)) for x, y, w in value], expected)
        for x, y, w in value:
            self.assertGreater(w, 0)
            self.assertEqual(gcd(x, y, w), 1)

    def test_a_square_and_its_middle(self):
        self.told(CROSS, CROSS_NET, 4, [(2, 0, 1), (4, 2, 1), (2, 4, 1), (0, 2, 1)])
        self.told(CROSS, CROSS_NET, 0, [(2, 0, 1), (0, 2, 1)])
        self.told(CROSS, CROSS_NET, 1, [(4, 2, 1), (2, 0, 1)])
        self.told(CROSS, CROSS_NET, 2, [(2, 4, 1), (4, 2, 1)])
        self.told(CROSS, CROSS_NET, 3, [(0, 2, 1), (2, 4, 1)])

    def test_a_middle_for_each_triangle_also_where_they_are_alike(self):
        self.told(SQUARE, ACROSS, 0, [(2, 2, 1), (2, 2, 1)])
        self.told(SQUARE, ACROSS, 1, [(2, 2, 1)])

    def test_middles_at_parts(self):
        points = [(0, 0), (3, 0), (0, 3), (1, 1)]
        net = [(1, 2, 3), (3, 2, 0), (0, 1, 3)]
        self.told(points, net, 3, [(3, -1, 2), (7, 7, 2), (-1, 3, 2)])
        self.told(points, net, 0, [(3, -1, 2), (-1, 3, 2)])

    def test_begins_where_the_first_two_round_it_stand(self):
        points = [(1, 1), (0, 3), (0, 0), (3, 0)]
        net = [(3, 1, 0), (0, 1, 2), (2, 3, 0)]
        self.assertEqual(around(points, net, 0), [1, 2, 3])
        self.told(points, net, 0, [(-1, 3, 2), (3, -1, 2), (7, 7, 2)])

    def test_triangles_that_are_not_near(self):
        kite = [(0, 0), (2, 1), (6, 0), (2, -1)]
        net = [(0, 2, 1), (0, 3, 2)]
        self.told(kite, net, 1, [(6, -7, 2)])
        self.told(kite, net, 0, [(6, 7, 2), (6, -7, 2)])

    def test_rows_have_empty_fields(self):
        for name, points in ROWS.items():
            for number in range(len(points)):
                with self.subTest(name=name, number=number):
                    self.told(points, [], number, [])

    def test_each_list_that_fills(self):
        dice = Random(43)
        for name, points in SMALL.items():
            for net, number in product(all_nets(points), range(len(points))):
                with self.subTest(name=name, net=net, number=number):
                    self.assert_field(points, handed(net, dice), number)

    def test_large_samples(self):
        dice = Random(44)
        for name, points in LARGE.items():
            for net in nets_of(points, dice):
                for number in range(len(points)):
                    with self.subTest(name=name, number=number):
                        self.assert_field(points, net, number)

    def test_what_is_no_number(self):
        for points in ALL.values():
            net = spread(points)
            assert_no_point(self, lambda number: field(points, net, number))
            assert_refused(self, NoPoint, field, points, net, len(points))
            assert_refused(self, NoPoint, field, points, net, -len(points))


class Walks(unittest.TestCase):
    def told(self, points, net, start, spot, expected):
        value = walked(points, net, start, spot)
        self.assertEqual(value, expected)
        assert_numbers(self, value)

    def test_across_a_square(self):
        self.told(SQUARE, ACROSS, 0, (5, 5), [0, 2])
        self.told(SQUARE, ACROSS, 1, (-1, 5), [1, 0, 3])
        self.told(SQUARE, ACROSS, 0, (1, 1), [0])
        self.told(CROSS, CROSS_NET, 0, (9, 9), [0, 4, 2])

    def test_of_several_that_are_nearest_the_least(self):
        self.told(CROSS, CROSS_NET, 4, (2, 9), [4, 2])
        self.told(CROSS, CROSS_NET, 4, (9, 2), [4, 1])
        self.told(CROSS, CROSS_NET, 4, (2, -9), [4, 0])
        self.told(CROSS, CROSS_NET, 4, (-9, 2), [4, 0])
        self.told(SQUARE, ACROSS, 2, (0, 0), [2, 0])
        self.told(SQUARE, ACROSS, 1, (-9, 2), [1, 0])

    def test_one_as_near_as_the_point_itself_ends_it(self):
        self.told(SQUARE, ACROSS, 1, (2, 2), [1])
        self.told(SQUARE, ACROSS, 0, (2, -3), [0])
        self.told(SQUARE, ACROSS, 1, (2, -3), [1])
        self.told([(0, 0), (2, 0)], [], 1, (1, 7), [1])

    def test_a_spot_that_is_a_point(self):
        for start, number in product(range(5), repeat=2):
            walk = walked(CROSS, CROSS_NET, start, CROSS[number])
            self.assertEqual((walk[0], walk[-1]), (start, number))

    def test_along_a_row(self):
        self.told(FLAT, [], 1, (100, 5), [1, 3, 2, 0, 4])
        self.told(FLAT, [], 4, (-100, 5), [4, 0, 2, 3, 1])
        self.told(FLAT, [], 4, (2, 9), [4, 0, 2])
        self.told(FLAT, [], 0, (4, -9), [0])

    def test_from_one_point(self):
        self.told([(3, -4)], [], 0, (3, -4), [0])
        self.told([(3, -4)], [], 0, (M, M), [0])

    def test_by_other_triangles_it_may_end_early(self):
        kite = [(0, 9), (-1, 0), (0, -9), (1, 0)]
        net = [(0, 1, 2), (0, 2, 3)]
        self.told(kite, net, 1, (1, 0), [1])
        self.told(kite, [(0, 1, 3), (1, 2, 3)], 1, (1, 0), [1, 3])

    def test_each_list_that_fills(self):
        dice = Random(45)
        for name, points in SMALL.items():
            nets = all_nets(points)
            spots = spots_of(points, dice)
            for net in nets[:4] + nets[-2:]:
                for start, spot in product(range(len(points)), spots):
                    with self.subTest(name=name, net=net, start=start, spot=spot):
                        walk = plain_walked(points, net, start, spot)
                        self.told(points, handed(net, dice), start, spot, walk)

    def test_large_samples_and_rows(self):
        dice = Random(46)
        for name, points in {**LARGE, **ROWS}.items():
            spots = spots_of(points, dice)
            for net in nets_of(points, dice):
                for _ in range(8):
                    start, spot = dice.randrange(len(points)), dice.choice(spots)
                    with self.subTest(name=name, start=start, spot=spot):
                        self.told(points, net, start, spot, plain_walked(points, net, start, spot))

    def test_what_is_no_number(self):
        for points in ALL.values():
            net = spread(points)
            assert_no_point(self, lambda start: walked(points, net, start, (0, 0)))
            assert_refused(self, NoPoint, walked, points, net, len(points), (0, 0))
            assert_refused(self, NoPoint, walked, points, net, -len(points), (0, 0))


class NearestPoints(unittest.TestCase):
    def test_each_walk_ends_at_a_nearest_one(self):
        dice = Random(47)
        for name, points in ALL.items():
            net = near(points)
            for spot in spots_of(points, dice):
                least = min(gap(point, spot) for point in points)
                for start in dice.sample(range(len(points)), min(5, len(points))):
                    with self.subTest(name=name, start=start, spot=spot):
                        last = walked(points, net, start, spot)[-1]
                        self.assertEqual(gap(points[last], spot), least)

    def test_a_nearest_one_is_where_none_round_it_is_nearer(self):
        dice = Random(48)
        for name, points in ALL.items():
            net = near(points)
            rounds = [around(points, net, number) for number in range(len(points))]
            for spot in spots_of(points, dice):
                gaps = [gap(point, spot) for point in points]
                for number, others in enumerate(rounds):
                    with self.subTest(name=name, number=number, spot=spot):
                        nearest = gaps[number] == min(gaps)
                        self.assertEqual(nearest, all(gaps[k] >= gaps[number] for k in others))

    def test_each_spot_of_a_small_grid(self):
        for points in list(permutations(grid(3, 3), 4))[::7] + [scattered(9, 4, 49)]:
            points = list(points)
            net = near(points)
            for spot in product(range(-1, 4), repeat=2):
                least = min(gap(point, spot) for point in points)
                last = walked(points, net, 3, spot)[-1]
                self.assertEqual(gap(points[last], spot), least)

    def test_the_middles_of_a_field_lie_as_far_from_no_nearer_point(self):
        for name, points in FULL.items():
            net = near(points)
            for number in range(len(points)):
                for x, y, w in field(points, net, number):
                    gaps = [(x - w * p) ** 2 + (y - w * q) ** 2 for p, q in points]
                    with self.subTest(name=name, number=number, middle=(x, y, w)):
                        self.assertEqual(gaps[number], min(gaps))


if __name__ == "__main__":
    unittest.main()
