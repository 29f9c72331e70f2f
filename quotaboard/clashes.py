"""Clashes: the least parts that no feasible row has."""

from quotaboard.boards import check_board
from quotaboard.checks import is_text
from quotaboard.errors import ClashError

SIGNS = "-01"

# Sets are numbers here, because all parts of a board are tried at once with them. In a set of rows, the row that reads
# as the binary number r is the bit 1 << r. In a set of issues, the issue at the place k, counted from 0 at the end of
# the row, is the bit 1 << k. For each place, these are the rows that have 0 there:
NOES = (
    0x5555555555555555, 0x3333333333333333, 0x0f0f0f0f0f0f0f0f,
    0x00ff00ff00ff00ff, 0x0000ffff0000ffff, 0x00000000ffffffff,
)


def clashes(board):
    """Yield all clashes of the board, those with fewer answers first."""
    check_board(board)
    yield from sorted(found_clashes(board), key=rank)


def is_clash(board, thing):
    """Tell whether the thing is a clash of the board."""
    check_board(board)
    return found_witnesses(board, thing) is not None


def witnesses(board, clash):
    """Return, for each answer of the clash, the first feasible row that has all the others."""
    check_board(board)
    found = found_witnesses(board, clash)
    check_clash(found)
    return found


def check_clash(found):
    """Raise ClashError if no witnesses were found, because there are some for each clash."""
    if found is None:
        raise ClashError("this is not a clash of the board")


def found_witnesses(board, thing):
    """Return the witnesses of the thing if it is a clash of the board, otherwise None."""
    if not is_text(thing, board.issues, SIGNS):
        return None
    firsts = first_rows(board, thing)
    answers = [1 << (board.issues - 1 - k) for k, sign in enumerate(thing) if sign != "-"]
    if 0 in firsts or not all([answer in firsts for answer in answers]):
        return None
    return tuple([firsts[answer] for answer in answers])


def first_rows(board, part):
    """Return a dict: for each set of answers of the part, as issues, the first feasible row that has all but these."""
    asked = int(part.replace("0", "1").replace("-", "0"), 2)
    wanted = int(part.replace("-", "0"), 2)
    firsts = {}
    for row in board.rows:
        firsts.setdefault((int(row, 2) ^ wanted) & asked, row)
    return firsts


def found_clashes(board):
    """Return all clashes of the board."""
    agreeing = agreeing_rows(board)
    found = []
    for asked, rows in enumerate(agreeing):
        # On no issue at all, which comes first, all rows agree with any feasible row.
        if rows != agreeing[0]:
            found.extend(all_parts(board.issues, asked, least_rows(board.issues, agreeing, asked)))
    return found


def least_rows(issues, agreeing, asked):
    """Return the rows that agree on the issues asked with no feasible row, but with some on all except any one."""
    rows = agreeing[0] ^ agreeing[asked]
    for k in range(issues):
        # Of the rows that differ only in issues that are not asked, the one with 0 there stands for their part.
        rows &= agreeing[asked ^ (1 << k)] if asked >> k & 1 else NOES[k]
    return rows


def agreeing_rows(board):
    """Return a list: for each set of issues, the rows that agree on these with some feasible row."""
    agreeing = [sum([1 << int(row, 2) for row in board.rows])]
    for k in range(board.issues):
        agreeing = [without_place(rows, k) for rows in agreeing] + agreeing
    return agreeing


def without_place(rows, k):
    """Return the rows, and those that differ from one of them at the place k only."""
    step = 1 << k
    return rows | ((rows & NOES[k]) << step) | ((rows >> step) & NOES[k])


def all_parts(issues, asked, rows):
    """Return the parts that the rows become without answers to other issues than those asked."""
    places = list(range(issues - 1, -1, -1))
    parts = []
    while rows:
        row = rows.bit_length() - 1
        rows ^= 1 << row
        parts.append("".join([SIGNS[(asked >> k & 1) + (row >> k & 1)] for k in places]))
    return parts


def rank(part):
    """Return what puts parts with fewer answers first, and those with equally many in the order of texts."""
    return len(part) - part.count("-"), part
