"""Ballots: checks of quotas and votes that several modules share, and the row that votes decide."""

from quotaboard.boards import check_board
from quotaboard.checks import check_voters, is_integer
from quotaboard.errors import NumberError, QuotasError, VotesError


def check_ballot(board, n, quotas):
    """Raise BoardError, VotersError or QuotasError, for the first argument that is wrong."""
    check_board(board)
    check_voters(n)
    check_quotas(board, n, quotas)


def check_quotas(board, n, quotas):
    """Raise QuotasError unless these are quotas for n voters."""
    if not isinstance(quotas, tuple) or len(quotas) != board.issues:
        raise QuotasError("quotas are a tuple with an integer for each issue")
    if not all([is_integer(quota, 1, n) for quota in quotas]):
        raise QuotasError("a quota is an integer from 1 to the number of voters")


def check_voter(n, voter):
    """Raise NumberError unless this is one of n voters."""
    if not is_integer(voter, 1, n):
        raise NumberError("a voter is an integer from 1 to the number of voters")


def are_votes(board, n, thing):
    """Tell whether the thing is a tuple of n feasible rows."""
    return isinstance(thing, tuple) and len(thing) == n and all([row in board for row in thing])


def check_votes(board, n, votes):
    """Raise VotesError unless these are a tuple of n feasible rows."""
    if not are_votes(board, n, votes):
        raise VotesError("votes are a tuple with a feasible row for each voter")


def decided_row(votes, quotas):
    """Return the row in which an issue is yes if at least its quota of the votes have yes."""
    return "".join(["1" if count_yes(votes, k) >= quota else "0" for k, quota in enumerate(quotas)])


def count_yes(votes, k):
    """Return how many of the votes have yes for the issue k."""
    return len([row for row in votes if row[k] == "1"])
