"""The refusals of backindex."""


class BackError(ValueError):
    pass


# Each refusal stands straight under BackError, so that taking one of them never takes another.


class NoOrder(BackError):
    pass


class NoPlace(BackError):
    pass


class NoGap(BackError):
    pass


class NoText(BackError):
    pass


class NoTimes(BackError):
    pass


class Empty(BackError):
    pass


class TooLong(BackError):
    pass


class NoName(BackError):
    pass


class NoRow(BackError):
    pass
