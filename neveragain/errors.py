"""The refusals: one class for each of them, all under WordError."""


class WordError(ValueError):
    pass


class NoRule(WordError):
    pass


class NoStart(WordError):
    pass


class NoPiece(WordError):
    pass


class NotMixed(WordError):
    pass


class NoShares(WordError):
    pass


class NoRow(WordError):
    pass


class TooGreat(WordError):
    def __init__(self, most=None):
        self.most = most
