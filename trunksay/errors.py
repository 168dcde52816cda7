"""The refusals: one class for each, all straight under TrunkError."""


class TrunkError(ValueError):
    pass


class NoTree(TrunkError):
    pass


class NoStatement(TrunkError):
    pass


class NoPlace(TrunkError):
    pass


class NoNumber(TrunkError):
    pass


class TooGreat(TrunkError):
    pass


class NoName(TrunkError):
    pass


class NoLine(TrunkError):
    pass


class NothingDone(TrunkError):
    pass


class NothingHeld(TrunkError):
    pass
