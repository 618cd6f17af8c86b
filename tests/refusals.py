"""What several tests ask of a refusal."""

from nearfields.errors import FieldError


class Stubborn:
    """A thing that can't be counted, compared, hashed, told or asked whether it is true."""

    def _refuse(self, *rest):
        raise RuntimeError("not to be asked")

    __len__ = __iter__ = __getitem__ = __bool__ = __int__ = __index__ = _refuse
    __eq__ = __ne__ = __lt__ = __le__ = __gt__ = __ge__ = _refuse
    __hash__ = __repr__ = __str__ = _refuse


def assert_refused(case, kind, call, *args):
    """The call raises this very class, which FieldError and ValueError take."""
    with case.assertRaises(ValueError) as caught:
        call(*args)
    case.assertIs(type(caught.exception), kind)
    case.assertIsInstance(caught.exception, FieldError)
