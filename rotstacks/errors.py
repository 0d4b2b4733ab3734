"""The refusals: each one straight under RotError, so that it is taken by its own name or as any refusal."""


class RotError(ValueError):
    pass


class UnknownStack(RotError):
    pass


class EmptyStack(RotError):
    pass


class UnknownPlace(RotError):
    pass


class BadHours(RotError):
    pass


class BadLoss(RotError):
    pass


class BadCount(RotError):
    pass


class HouseFull(RotError):
    pass


class DeedsFull(RotError):
    pass


class NothingWaits(RotError):
    pass


class NothingDone(RotError):
    pass


class ShortOrder(RotError):
    pass


class TooManyOrders(RotError):
    pass


class NotGone(RotError):
    pass
