"""Point 1 and nearfields/points.py: which lists of points are taken, and what is refused first."""

import unittest
from decimal import Decimal
from fractions import Fraction

from nearfields.errors import BadCount, BadPoint, Twice
from nearfields.points import checked
from tests.refusals import Stubborn, assert_refused

FORTY = [(k, k * k) for k in range(40)]
CORNERS = [(-1000000, -1000000), (-1000000, 1000000), (1000000, -1000000), (1000000, 1000000)]

NO_LISTS = [
    None,
    True,
    False,
    0,
    1,
    -7,
    1.5,
    "",
    "ab",
    b"ab",
    (),
    (0, 0),
    ((0, 0), (1, 0)),
    {},
    {(0, 0): True},
    {(0, 0)},
    frozenset({(0, 0)}),
    range(3),
    iter([(0, 0)]),
    (point for point in [(0, 0)]),
    zip([0], [0]),
    object(),
    list,
    len,
]

NO_NUMBERS = [
    None,
    True,
    False,
    1000001,
    -1000001,
    10**30,
    -(10**30),
    0.0,
    1.5,
    float("nan"),
    float("inf"),
    1j,
    Fraction(1),
    Decimal(1),
    "",
    "1",
    b"1",
    (),
    (1,),
    [1],
    {},
    {1: 1},
    {1},
    object(),
    int,
]

NO_POINTS = [
    None,
    True,
    False,
    0,
    12,
    1.5,
    "",
    "ab",
    b"ab",
    (),
    (1,),
    (1, 2, 3),
    ((1, 2),),
    ((1, 2), (3, 4)),
    [],
    [1, 2],
    {},
    {1: 2, 3: 4},
    {1, 2},
    frozenset({1, 2}),
    range(2),
    iter((1, 2)),
    object(),
    tuple,
]


class Taken(unittest.TestCase):
    def test_one_point(self):
        self.assertEqual(checked([(3, -4)]), [(3, -4)])

    def test_forty_points(self):
        self.assertEqual(len(FORTY), 40)
        self.assertEqual(checked(list(FORTY)), FORTY)

    def test_each_count_from_one_to_forty(self):
        for count in range(1, 41):
            with self.subTest(count=count):
                self.assertEqual(checked(FORTY[:count]), FORTY[:count])

    def test_the_order_stays(self):
        points = [(5, 5), (-1, 0), (0, 0), (5, -5), (-1, -1)]
        self.assertEqual(checked(points), [(5, 5), (-1, 0), (0, 0), (5, -5), (-1, -1)])

    def test_numbers_just_inside_of_the_limits(self):
        self.assertEqual(checked(list(CORNERS)), CORNERS)
        self.assertEqual(checked([(1000000, 0)]), [(1000000, 0)])
        self.assertEqual(checked([(0, -1000000)]), [(0, -1000000)])

    def test_points_that_share_a_number_or_are_turned_about_are_not_alike(self):
        points = [(1, 2), (2, 1), (1, 1), (2, 2), (-1, -2), (-2, -1), (1, -2), (-1, 2)]
        self.assertEqual(checked(points), points)

    def test_points_in_a_row(self):
        points = [(k, k) for k in range(7)]
        self.assertEqual(checked(points), points)

    def test_the_list_told_is_a_new_one(self):
        points = [(0, 0), (1, 0), (0, 1)]
        first = checked(points)
        second = checked(points)
        self.assertIs(type(first), list)
        self.assertIsNot(first, points)
        self.assertIsNot(second, points)
        self.assertIsNot(first, second)
        first.append((9, 9))
        first[0] = (7, 7)
        self.assertEqual(points, [(0, 0), (1, 0), (0, 1)])
        self.assertEqual(second, [(0, 0), (1, 0), (0, 1)])

    def test_the_list_handed_in_stays_as_it_was(self):
        points = [(4, 1), (0, 0), (3, -2)]
        checked(points)
        self.assertEqual(points, [(4, 1), (0, 0), (3, -2)])

    def test_what_was_checked_is_taken_again(self):
        self.assertEqual(checked(checked(FORTY)), FORTY)


class Refused(unittest.TestCase):
    def test_an_empty_list(self):
        assert_refused(self, BadCount, checked, [])

    def test_more_than_forty(self):
        for count in (41, 42, 80, 1000):
            with self.subTest(count=count):
                assert_refused(self, BadCount, checked, [(k, 0) for k in range(count)])

    def test_what_is_no_list(self):
        for thing in NO_LISTS:
            with self.subTest(thing=repr(thing)):
                assert_refused(self, BadCount, checked, thing)

    def test_a_stubborn_thing_at_every_kind_of_place(self):
        assert_refused(self, BadCount, checked, Stubborn())
        assert_refused(self, BadPoint, checked, [Stubborn()])
        assert_refused(self, BadPoint, checked, [Stubborn(), Stubborn()])
        assert_refused(self, BadPoint, checked, [(0, Stubborn())])
        assert_refused(self, BadPoint, checked, [(Stubborn(), 0)])

    def test_what_is_no_point_at_each_place_of_the_list(self):
        good = [(0, 0), (5, 1)]
        for thing in NO_POINTS:
            for place in range(3):
                with self.subTest(thing=repr(thing), place=place):
                    assert_refused(self, BadPoint, checked, good[:place] + [thing] + good[place:])

    def test_what_is_no_point_standing_alone(self):
        for thing in NO_POINTS:
            with self.subTest(thing=repr(thing)):
                assert_refused(self, BadPoint, checked, [thing])

    def test_what_is_no_number_at_either_place_of_a_point(self):
        for thing in NO_NUMBERS:
            for point in ((thing, 0), (0, thing), (thing, thing)):
                with self.subTest(point=repr(point)):
                    assert_refused(self, BadPoint, checked, [point])
                    assert_refused(self, BadPoint, checked, [(4, 5), (6, 7), point])

    def test_a_list_that_stands_in_itself(self):
        points = [(0, 0)]
        points.append(points)
        assert_refused(self, BadPoint, checked, points)

    def test_two_points_alike(self):
        assert_refused(self, Twice, checked, [(0, 0), (0, 0)])
        assert_refused(self, Twice, checked, [(1, 2), (3, 4), (1, 2)])
        assert_refused(self, Twice, checked, [(-1, -2), (8, 9), (0, 0), (8, 9)])
        assert_refused(self, Twice, checked, [(6, 6)] * 40)
        assert_refused(self, Twice, checked, FORTY[:39] + [FORTY[0]])

    def test_points_alike_that_are_not_the_same_thing(self):
        assert_refused(self, Twice, checked, [(int("777"), 5), (int("777"), int("5"))])

    def test_each_two_places_of_points_alike(self):
        for first in range(5):
            for second in range(first + 1, 5):
                with self.subTest(first=first, second=second):
                    points = [(k, -k) for k in range(5)]
                    points[second] = (first, -first)
                    assert_refused(self, Twice, checked, points)


class WhichFaultIsFirst(unittest.TestCase):
    def test_the_count_before_a_thing_that_is_no_point(self):
        assert_refused(self, BadCount, checked, [None] * 41)
        assert_refused(self, BadCount, checked, FORTY + ["no point"])
        assert_refused(self, BadCount, checked, ([1, 2], None))

    def test_the_count_before_points_alike(self):
        assert_refused(self, BadCount, checked, [(0, 0)] * 41)
        assert_refused(self, BadCount, checked, ((0, 0), (0, 0)))

    def test_a_thing_that_is_no_point_before_points_alike(self):
        assert_refused(self, BadPoint, checked, [(0, 0), (0, 0), None])
        assert_refused(self, BadPoint, checked, [None, (0, 0), (0, 0)])
        assert_refused(self, BadPoint, checked, [(0, 0), (0, 0), (0, 1000001)])
        assert_refused(self, BadPoint, checked, [(0, 0), (0, 0), [0, 0]])
        assert_refused(self, BadPoint, checked, [(0, 0), (False, False)])
        assert_refused(self, BadPoint, checked, [(1, 1), (1, 1), (1, True)])

    def test_things_alike_that_are_no_points(self):
        assert_refused(self, BadPoint, checked, [None, None])
        assert_refused(self, BadPoint, checked, [(True, True), (True, True)])
        assert_refused(self, BadPoint, checked, [[1, 2], [1, 2]])

    def test_a_list_that_is_refused_stays_as_it_was(self):
        for points in ([], [(0, 0), (0, 0)], [(1, 1), [2, 3]], [(k, 0) for k in range(41)]):
            with self.subTest(points=points):
                before = list(points)
                with self.assertRaises(ValueError):
                    checked(points)
                self.assertEqual(points, before)


if __name__ == "__main__":
    unittest.main()
