"""The refusals: each has a class of its own, straight under PressError."""


class PressError(ValueError):
    pass


class TooFew(PressError):
    pass


class TooMany(PressError):
    pass


class TooWide(PressError):
    pass


class NoFormula(PressError):
    pass


class NoName(PressError):
    pass


class NoLine(PressError):
    pass


class NoCircuit(PressError):
    pass


class OutOfWidth(PressError):
    pass
