"""The refusals of points 16 and 17."""


class CostError(ValueError):
    pass


class Full(CostError):
    pass


class NoClaim(CostError):
    pass


class RoundOver(CostError):
    pass


class TooLate(CostError):
    pass


class Twice(CostError):
    pass


class TooMuch(CostError):
    pass


class NoRow(CostError):
    pass


class Needed(CostError):
    pass
