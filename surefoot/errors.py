"""The refusals."""


class FootError(ValueError):
    pass


class NoRatio(FootError):
    pass


class NoNumber(FootError):
    pass


class TooGreat(FootError):
    pass


class BadText(FootError):
    def __init__(self, text, at=0):
        FootError.__init__(self, text)
        self.at = at


class BadRow(FootError):
    pass
