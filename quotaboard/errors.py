"""The errors of the package: one class for each kind of failure."""


class QuotaError(ValueError):
    """The base class of all errors of the package."""


class RowsError(QuotaError):
    """The rows are not those that are needed."""


class TextError(QuotaError):
    """The value is not the text of a board."""


class BoardError(QuotaError):
    """The value is not a board."""


class NumberError(QuotaError):
    """The value is not a number that is needed here."""


class ClashError(QuotaError):
    """The value is not a clash of the board."""


class VotersError(QuotaError):
    """The value is not a number of voters."""


class QuotasError(QuotaError):
    """The value is not quotas for the board and the voters."""


class SharesError(QuotaError):
    """The value is not shares for the board."""


class VotesError(QuotaError):
    """The value is not a tuple with a feasible row for each voter."""


class NoneError(QuotaError):
    """The board has no premises."""


class NothingError(QuotaError):
    """There is nothing to take back."""


class LimitError(QuotaError):
    """An amount is above the limit for it."""

    def __init__(self, amount, limit):
        super().__init__(f"{amount} is more than the limit {limit}")
        self.amount = amount
        self.limit = limit
