"""Boards: connected issues with their feasible rows."""

from quotaboard.checks import check_voters, is_integer, is_text
from quotaboard.errors import BoardError, NumberError, RowsError, TextError


class Board:
    """Yes-or-no issues, and the rows of answers to them that make sense."""

    MOST = 6

    def __init__(self, *rows):
        if not are_rows(rows):
            raise RowsError("a board has different rows of 0 and 1, of equal length from 1 to 6")
        self.ordered = tuple(sorted(rows))

    @property
    def rows(self):
        """The feasible rows in ascending order."""
        return self.ordered

    @property
    def issues(self):
        """The number of issues."""
        return len(self.ordered[0])

    @classmethod
    def read(cls, text):
        """Return the board with the rows in the text, separated by single spaces."""
        if not isinstance(text, str):
            raise TextError("a board is read from a text")
        words = text.split(" ")
        if not are_rows(words):
            raise TextError("the text of a board has different rows, separated by single spaces")
        return cls(*words)

    @staticmethod
    def majority(n):
        """Return the least number of votes that more than half of n voters have."""
        check_voters(n)
        return n // 2 + 1

    def text(self):
        """Return the rows in ascending order, separated by single spaces."""
        return " ".join(self.ordered)

    def __contains__(self, x):
        return x in self.ordered

    def __getitem__(self, at):
        if not is_integer(at, 0, len(self.ordered) - 1):
            raise NumberError("the index of a row is an integer from 0 on, less than the number of rows")
        return self.ordered[at]

    # Without this method Python would iterate by indexes and end in a NumberError.
    def __iter__(self):
        raise TypeError("a board is not iterated over, but its rows are")

    def __add__(self, other):
        if not isinstance(other, Board):
            raise BoardError("only a board can be put beside a board")
        # The new board itself refuses rows of more issues than a board may have.
        rows = [row + more for row in self.ordered for more in other.ordered]
        return Board(*rows)

    def __neg__(self):
        rows = [exchanged(row) for row in self.ordered]
        return Board(*rows)


def are_rows(values):
    """Tell whether the values can be the rows of one board."""
    if not values or not isinstance(values[0], str):
        return False
    length = len(values[0])
    if not 1 <= length <= Board.MOST:
        return False
    return all([is_text(value, length, "01") for value in values]) and len(set(values)) == len(values)


def exchanged(row):
    """Return the row with yes and no exchanged."""
    return "".join(["0" if answer == "1" else "1" for answer in row])


def check_board(board):
    """Raise BoardError for anything but a board."""
    if not isinstance(board, Board):
        raise BoardError("a board is needed")
