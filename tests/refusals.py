"""What several tests ask of a refusal."""

from nearfields.errors import FieldError


def assert_refused(case, kind, call, *args):
    """The call raises this very class, which FieldError and ValueError take."""
    with case.assertRaises(ValueError) as caught:
        call(*args)
    case.assertIs(type(caught.exception), kind)
    case.assertIsInstance(caught.exception, FieldError)
