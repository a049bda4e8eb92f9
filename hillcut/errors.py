"""The refusals of the package."""


class HillError(ValueError):
    pass


class NoHill(HillError):
    pass


class NoRing(HillError):
    pass


class NoPlace(HillError):
    pass
