"""The refusals, each a class of its own under SayError."""


class SayError(ValueError):
    pass


class TooLong(SayError):
    pass


class NoRow(SayError):
    pass


class NoPlace(SayError):
    pass


class NoMeasure(SayError):
    pass


class Twice(SayError):
    pass


class Full(SayError):
    pass


class NoBox(SayError):
    pass


class NoMark(SayError):
    pass


class NoSaying(SayError):
    pass


class NoForm(SayError):
    pass


class NoneYet(SayError):
    pass


class NotSeen(SayError):
    pass
