"""Clashes: the least parts that no feasible row has."""

from quotaboard.boards import check_board
from quotaboard.checks import is_text
from quotaboard.errors import ClashError

# In this order, because the texts that are built from the signs shall ascend.
SIGNS = "-01"


def clashes(board):
    """Yield all clashes of the board, those with fewer answers first."""
    check_board(board)
    firsts = first_rows(board)
    # Sorting keeps the order of texts among parts with equally many answers.
    for part in sorted(all_texts([SIGNS] * board.issues), key=count_answers):
        if is_least(part, firsts):
            yield part


def is_clash(board, thing):
    """Tell whether the thing is a clash of the board."""
    check_board(board)
    return is_text(thing, board.issues, SIGNS) and is_least(thing, first_rows(board))


def witnesses(board, clash):
    """Return, for each answer of the clash, the first feasible row that has all the others."""
    check_clash(board, clash)
    firsts = first_rows(board)
    return tuple([firsts[part] for part in shortened(clash)])


def check_clash(board, clash):
    """Raise BoardError or ClashError unless this is a clash of a board."""
    if not is_clash(board, clash):
        raise ClashError("this is not a clash of the board")


def first_rows(board):
    """Return a dict with the first feasible row that has it for each part that some feasible row has."""
    firsts = {}
    for row in board.rows:
        for part in all_texts(["-" + answer for answer in row]):
            firsts.setdefault(part, row)
    return firsts


def is_least(part, firsts):
    """Tell whether no feasible row has the part, but some has it without any one of its answers."""
    return part not in firsts and all([less in firsts for less in shortened(part)])


def shortened(part):
    """Return the parts that result from replacing one answer by -, in the order of issues."""
    return [part[:k] + "-" + part[k + 1:] for k in range(len(part)) if part[k] != "-"]


def count_answers(part):
    """Return the number of answers of the part."""
    return len(part) - part.count("-")


def all_texts(choices):
    """Return all texts with one sign from each of the choices, ascending if the choices are."""
    texts = [""]
    for signs in choices:
        texts = [text + sign for text in texts for sign in signs]
    return texts
