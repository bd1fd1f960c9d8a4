"""The refusals, a class each."""


class FenceError(ValueError):
    pass


class NoCurve(FenceError):
    pass


class Nought(FenceError):
    pass


class NoPlace(FenceError):
    pass


class NoStretch(FenceError):
    pass


class NoFine(FenceError):
    pass


class NoLine(FenceError):
    pass
