"""The refusals of the program, one class for each."""


class BlotError(ValueError):
    pass


class NotAlike(BlotError):
    pass


class OffStrip(BlotError):
    pass


class NoSheet(BlotError):
    pass


class NoFont(BlotError):
    pass


class NoSign(BlotError):
    pass


class NoHouse(BlotError):
    pass


class NoWords(BlotError):
    pass


class TooWide(BlotError):
    pass


class NoFiller(BlotError):
    pass


class NotTaken(BlotError):
    pass


class NoRow(BlotError):
    pass


class NoName(BlotError):
    pass


class NoNote(BlotError):
    pass
