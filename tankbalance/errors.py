"""The refusals, in the order in which one comes ahead of another."""


class CellarError(ValueError):
    pass


class BadTanks(CellarError):
    pass


class UnknownDay(CellarError):
    pass


class UnknownPlace(CellarError):
    pass


class SamePlace(CellarError):
    pass


class WrongRises(CellarError):
    pass


class UnknownStream(CellarError):
    pass


class Twice(CellarError):
    pass


class AlreadyMetered(CellarError):
    pass


class NotMetered(CellarError):
    pass


class ReadingMissing(CellarError):
    pass


class OutOfRange(CellarError):
    pass


class TooManyStreams(CellarError):
    pass


class TooManyMeters(CellarError):
    pass


class TooManyDays(CellarError):
    pass


class TooManyDeeds(CellarError):
    pass


class NothingDone(CellarError):
    pass


class Clashing(CellarError):
    pass
