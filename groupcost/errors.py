"""The refusals of the program, each a class of its own straight under CostError."""


class CostError(ValueError):
    """Any refusal."""


class BadTable(CostError):
    """A list of numbers that is no table."""


class Unlike(CostError):
    """Two things that are not of as many hands."""


class NotFalling(CostError):
    """A table that does not fall where one that falls is due."""


class NotRising(CostError):
    """A table that does not rise where one that rises is due."""


class NotUnder(CostError):
    """Shares that are not under a table, or above a bound."""


class NotBase(CostError):
    """Shares that are no base of a table."""


class BadMaker(CostError):
    """A maker of tables that is told wrongly."""


class BadAsk(CostError):
    """A row that is not the words of an ask."""


class BadPaper(CostError):
    """A row that is no answer or no paper."""


class BadText(CostError):
    """A text with a row that does not belong there; `row` is that row's number."""

    def __init__(self, text, row):
        CostError.__init__(self, text)
        self.row = row
