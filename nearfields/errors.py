"""The refusals of this package."""


class FieldError(ValueError):
    """Any refusal."""


class BadCount(FieldError):
    """What was handed in is no list of 1 to 40 things."""


class BadPoint(FieldError):
    """A thing is no point."""


class Twice(FieldError):
    """Two points are alike."""


class InRow(FieldError):
    """Three points lie in a row and so have no ring."""


class NoPoint(FieldError):
    """This is no point's number."""


class NoSide(FieldError):
    """This pair is no side."""


class Bent(FieldError):
    """The four points are no four-corner that bulges at each of its corners."""
