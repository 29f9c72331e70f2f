"""Premises: issues whose answers settle all others."""

from quotaboard.boards import check_board
from quotaboard.checks import is_text
from quotaboard.errors import NoneError, RowsError


def premises(board):
    """Return the first issues each of whose combinations of answers occurs in just one feasible row, or None."""
    check_board(board)
    # With fewer issues two rows have the same answers; with more, some combination is in no row.
    size = len(board.rows).bit_length() - 1
    for chosen in choices(board.issues, size):
        if len({answers_to(row, chosen) for row in board.rows}) == len(board.rows):
            return chosen
    return None


def settled(board, answers):
    """Return the feasible row with these answers to the premises."""
    chosen = premises(board)
    check_premises(chosen)
    if not is_text(answers, len(chosen), "01"):
        raise RowsError("the answers are a text of 0 and 1 with a character for each premise")
    return settled_row(board, chosen, answers)


def check_premises(chosen):
    """Raise NoneError if no premises were found."""
    if chosen is None:
        raise NoneError("the board has no premises")


def settled_row(board, chosen, answers):
    """Return the feasible row with these answers to the chosen premises."""
    return [row for row in board.rows if answers_to(row, chosen) == answers][0]


def answers_to(row, chosen):
    """Return the answers of the row to the chosen issues."""
    return "".join([row[k] for k in chosen])


def choices(many, size):
    """Return all ascending tuples of so many issues below the number, in the order of tuples."""
    found = [()]
    for step in range(size):
        found = [(*chosen, k) for chosen in found for k in range(many) if not chosen or k > chosen[-1]]
    return found
