"""What several tests ask of the kinds of what is told."""


def assert_numbers(case, told):
    """A list of whole numbers."""
    case.assertIs(type(told), list)
    for number in told:
        case.assertIs(type(number), int)


def assert_tuples(case, told, length):
    """A list of tuples of as many whole numbers."""
    case.assertIs(type(told), list)
    for thing in told:
        case.assertIs(type(thing), tuple)
        case.assertEqual([type(number) for number in thing], [int] * length)


def assert_triangles(case, told):
    """Triangles with the least number first, as a list that rises."""
    assert_tuples(case, told, 3)
    for triangle in told:
        case.assertEqual(triangle[0], min(triangle))
    case.assertEqual(told, sorted(told))


def assert_sides(case, told):
    """Sides with the lesser number first."""
    assert_tuples(case, told, 2)
    for a, b in told:
        case.assertLess(a, b)
