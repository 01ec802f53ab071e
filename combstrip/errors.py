"""The refusals of the program, one class for each."""


class CombError(ValueError):
    pass


class BadName(CombError):
    pass


class BadTeeth(CombError):
    pass


class NameTaken(CombError):
    pass


class BookFull(CombError):
    pass


class NoComb(CombError):
    pass


class BadTooth(CombError):
    pass


class ToothThere(CombError):
    pass


class FirstTooth(CombError):
    pass


class ToothMissing(CombError):
    pass


class DeedsFull(CombError):
    pass


class NothingDone(CombError):
    pass


class BadShape(CombError):
    pass


class BadPlace(CombError):
    pass


class BadLength(CombError):
    pass


class NoFilling(CombError):
    pass
