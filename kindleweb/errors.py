"""The refusals of the program, one class for each."""


class HearthError(ValueError):
    pass


class BadWeb(HearthError):
    pass


class BadSet(HearthError):
    pass


class BadOrder(HearthError):
    pass


class BadPrices(HearthError):
    pass


class BadBoard(HearthError):
    pass


class BadDeed(HearthError):
    pass


class NotWood(HearthError):
    pass


class NoPaper(HearthError):
    pass


class NoSuch(HearthError):
    pass


class TooMany(HearthError):
    pass


class NoText(HearthError):
    pass


class OddRound(HearthError):
    pass
