"""The refusals: one class for each, all straight under InkError.

Their words name no number that was handed in: a number may have any size,
and Python refuses to write a very long one out.
"""


class InkError(ValueError):
    pass


class NoSuchDay(InkError):
    pass


class BadLength(InkError):
    pass


class BadForm(InkError):
    pass


class BadForms(InkError):
    pass


class BadText(InkError):
    pass


class NoSuchReading(InkError):
    pass


class BadGap(InkError):
    pass


class BadPlace(InkError):
    pass


class HouseFull(InkError):
    pass


class NotPossible(InkError):
    pass


class NothingKept(InkError):
    pass
