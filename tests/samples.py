"""Boards and values that several tests share, and plain models of what the package finds."""

from itertools import combinations_with_replacement, product
from random import Random

from quotaboard.boards import Board

EXAMPLE = ("000", "010", "100", "111")


def texts(length, signs="01"):
    """Return all texts of this length over the signs, ascending if the signs are."""
    return ["".join(word) for word in product(signs, repeat=length)]


def drawn_rows(seed, each=12):
    """Return tuples of rows in mixed order: for 1 to 6 issues one row, all rows, and drawn ones."""
    draw = Random(seed)
    result = []
    for length in range(1, 7):
        every = texts(length)
        result.append((draw.choice(every),))
        result.append(tuple(draw.sample(every, len(every))))
        for _ in range(each):
            result.append(tuple(draw.sample(every, draw.randint(1, len(every)))))
    return result


def drawn_boards(seed, each=12):
    """Return boards of the rows of drawn_rows."""
    return [Board(*rows) for rows in drawn_rows(seed, each)]


def drawn_quotas(draw, board, n):
    """Return quotas for n voters, with 1 and n more often than others."""
    return tuple(draw.choice((1, n, draw.randint(1, n), draw.randint(1, n))) for _ in range(board.issues))


def drawn_votes(draw, board, n):
    """Return votes of n voters, often with few different rows."""
    rows = draw.sample(board.rows, draw.randint(1, min(n, len(board.rows))))
    return tuple(draw.choice(rows) for _ in range(n))


def has(row, part):
    """Tell whether the row agrees with all answers of the part."""
    return all(sign in ("-", answer) for answer, sign in zip(row, part))


def without(part):
    """Return the part without each of its answers."""
    return [part[:k] + "-" + part[k + 1:] for k in range(len(part)) if part[k] != "-"]


def is_had(rows, part):
    """Tell whether some row has the part."""
    return any(has(row, part) for row in rows)


def in_order(parts):
    """Return the parts with fewer answers first, else in the order of texts."""
    return sorted(parts, key=lambda part: (sum(sign != "-" for sign in part), part))


def tried_clashes(board):
    """Return the clashes in order, found by trying all parts one by one."""
    had = {part for part in texts(board.issues, "-01") if is_had(board.rows, part)}
    return in_order(
        part for part in texts(board.issues, "-01") if part not in had and all(less in had for less in without(part))
    )


def tried_witnesses(board, clash):
    """Return the first feasible row for each answer of the clash, found by trying all rows."""
    return tuple(next(row for row in board.rows if has(row, less)) for less in without(clash))


def counted_result(votes, quotas):
    """Return the row that the votes decide."""
    return "".join(str(int(sum(row[k] == "1" for row in votes) >= quota)) for k, quota in enumerate(quotas))


def needed_votes(n, quota, answer):
    """Return how many votes the answer needs."""
    return quota if answer == "1" else n + 1 - quota


def tried_strain(n, quotas, clash):
    """Return the strain as point 31 says it."""
    return sum(n - needed_votes(n, quota, answer) for quota, answer in zip(quotas, clash) if answer != "-")


def tried_verdict(board, n, quotas, parts=None):
    """Return the verdict as point 32 says it."""
    for clash in tried_clashes(board) if parts is None else parts:
        if tried_strain(n, quotas, clash) >= n:
            given = []
            answers = [(quota, answer) for quota, answer in zip(quotas, clash) if answer != "-"]
            for (quota, answer), row in zip(answers, tried_witnesses(board, clash)):
                for _ in range(n - needed_votes(n, quota, answer)):
                    given.append(row)
            return clash, tuple(given[:n])
    return None


def every_vote_count(board, n):
    """Return all votes of n voters, each in one order only, because no result depends on the order."""
    return combinations_with_replacement(board.rows, n)


def every_quotas(board, n):
    """Return all quotas for n voters, ascending."""
    return product(range(1, n + 1), repeat=board.issues)


def nested(depth):
    """Return lists, tuples and dicts inside each other."""
    value = "000"
    for step in range(depth):
        value = ([value], (value,), {"000": value})[step % 3]
    return value


def no_texts():
    """Return values of every kind but texts."""
    return [
        0, 1, -1, 7, 10, 111, 9999999999999, True, False, None,
        [], ["000"], ["0", "0", "0"], ["010", "111"], (), ("000",), ("0", "0", "0"), ("010", "111"), (0, 1, 0),
        {}, {"000": "000"}, {"000": True}, {0: "0"}, [None, True, 3, ("000", ["111", {"a": 1}])],
        nested(8), ["000"] * 1999, tuple(range(1999)), {number: None for number in range(999)},
    ]


def no_boards():
    """Return values that are no board."""
    return no_texts() + ["", "000", "110", "000 010 100 111", EXAMPLE, list(EXAMPLE), Board]


def outside(low, high):
    """Return values that are no integer from low to high."""
    return [
        low - 1, high + 1, -high - 1, 9999999999999, -9999999999999, True, False, None, "", str(low), str(high),
        (), (low,), [], [low], {}, {low: low}, nested(8), Board("0"),
    ]


def changed_at_each_place(values, others):
    """Return the values as tuples with each of the others in each place."""
    return [values[:k] + (other,) + values[k + 1:] for k in range(len(values)) for other in others]


def wrong_quotas(quotas, n):
    """Return values that are no quotas, although much like these."""
    return [
        list(quotas), quotas + (1,), quotas[:-1], quotas * 2, (), [], None, True, False, quotas[0], str(quotas[0]),
        "".join(str(quota) for quota in quotas), {quota: quota for quota in quotas}, dict(enumerate(quotas)),
        (quotas,), [quotas], nested(8), Board("0"),
    ] + changed_at_each_place(quotas, outside(1, n))


def wrong_shares(shares):
    """Return values that are no shares, although much like these."""
    pairs = [
        (1, 1), (0, 0), (100, 100), (2, 1), (100, 99), (1, 0), (-1, 1), (-1, -2), (-2, -1), (0, 101), (100, 101),
        (99, 101), (0, -1), (False, True), (0, True), (False, 1), (True, 2), (None, 1), (0, None), ("0", "1"), ("0", 1),
        (0, "1"), ((0,), 1), (0, [1]), [0, 1], [1, 2], (0,), (1,), (), (0, 1, 2), (0, 1, 1), ((0, 1),), {0: 1}, {0, 1},
        0, 1, True, None, "01", "1/2", "", [], 9999999999999, (0, 9999999999999), (-9999999999999, 1), nested(8),
    ]
    return [
        list(shares), shares + ((1, 2),), shares[:-1], shares * 2, (), [], None, True, 1, 0, "", "1/2", (1, 2), [1, 2],
        ((1, 2), (1, 2)) * 4, dict(enumerate(shares)), (shares,), nested(8), Board("0"),
    ] + changed_at_each_place(shares, pairs)


def wrong_votes(board, votes):
    """Return values that are no votes of so many voters, although much like these."""
    others = [row for row in texts(board.issues) if row not in board.rows]
    row = votes[0]
    signs = others[:2] + [row + "0", row[1:], row + " ", row.replace(row[0], "-"), ""]
    return [
        list(votes), votes + (row,), votes[:-1], votes * 2, (), [], None, True, 0, len(votes), row, " ".join(votes),
        "".join(votes), dict.fromkeys(votes), dict(enumerate(votes)), (votes,), [votes], nested(8), board, board.text(),
    ] + changed_at_each_place(votes, signs + [None, True, 0, 1, int(row), [row], (row,), tuple(row), {row: row}, board])
