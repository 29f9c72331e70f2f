"""Boards and values that several tests share."""

from itertools import product
from random import Random

from quotaboard.boards import Board

EXAMPLE = ("000", "010", "100", "111")


def texts(length, signs="01"):
    """Return all texts of this length over the signs, ascending if the signs are."""
    return ["".join(word) for word in product(signs, repeat=length)]


def drawn_rows(seed, each=12):
    """Return tuples of rows in mixed order: for 1 to 6 issues one row, all rows, and drawn ones."""
    draw = Random(seed)
    result = []
    for length in range(1, 7):
        every = texts(length)
        result.append((draw.choice(every),))
        result.append(tuple(draw.sample(every, len(every))))
        for _ in range(each):
            result.append(tuple(draw.sample(every, draw.randint(1, len(every)))))
    return result


def drawn_boards(seed, each=12):
    """Return boards of the rows of drawn_rows."""
    return [Board(*rows) for rows in drawn_rows(seed, each)]


def nested(depth):
    """Return lists, tuples and dicts inside each other."""
    value = "000"
    for step in range(depth):
        value = ([value], (value,), {"000": value})[step % 3]
    return value


def no_texts():
    """Return values of every kind but texts."""
    return [
        0, 1, -1, 7, 10, 111, 9999999999999, True, False, None,
        [], ["000"], ["0", "0", "0"], ["010", "111"], (), ("000",), ("0", "0", "0"), ("010", "111"), (0, 1, 0),
        {}, {"000": "000"}, {"000": True}, {0: "0"}, [None, True, 3, ("000", ["111", {"a": 1}])],
        nested(8), ["000"] * 1999, tuple(range(1999)), {number: None for number in range(999)},
    ]
