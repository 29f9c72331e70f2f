"""Quotas: whether feasible votes can decide a row that is not feasible, and which quotas exclude it."""

from quotaboard.ballots import are_votes, check_ballot, decided_row
from quotaboard.boards import check_board
from quotaboard.checks import check_voters, is_integer
from quotaboard.clashes import check_clash, clashes, found_witnesses, witnesses
from quotaboard.errors import LimitError, SharesError

MOST_QUOTAS = 4096
MOST_PARTS = 100


def strain(board, n, quotas, clash):
    """Return the sum, over the answers of the clash, of n minus the votes that the answer needs."""
    check_ballot(board, n, quotas)
    check_clash(found_witnesses(board, clash))
    return summed_strain(n, quotas, clash)


def holds(board, n, quotas):
    """Tell whether every result of feasible votes is feasible."""
    check_ballot(board, n, quotas)
    parts = list(clashes(board))
    return first_strained(parts, n, quotas) is None


def verdict(board, n, quotas):
    """Return None if the quotas hold, otherwise a clash and votes whose result has it."""
    check_ballot(board, n, quotas)
    parts = list(clashes(board))
    return found_verdict(board, parts, n, quotas)


def is_failure(board, n, quotas, thing):
    """Tell whether the thing is a tuple of n feasible rows whose result is not feasible."""
    check_ballot(board, n, quotas)
    return are_votes(board, n, thing) and decided_row(thing, quotas) not in board


def all_quotas(board, n):
    """Yield all quotas that hold, in ascending order."""
    check_board(board)
    check_voters(n)
    check_amount(board, n)
    parts = list(clashes(board))
    # Each state is the quotas of the first issues, and what they add to the strain of each clash.
    states = [((), [0] * len(parts))]
    for k in range(board.issues):
        states = [
            ((*quotas, quota), raised(sums, parts, k, n, quota))
            for quotas, sums in states for quota in held_range(sums, parts, k, n)
        ]
    for quotas, sums in states:
        yield quotas


def nearest(board, n, quotas):
    """Return the least distance of quotas that hold, and the first such quotas; None if no quotas hold."""
    check_ballot(board, n, quotas)
    held = list(all_quotas(board, n))
    return min([(distance(other, quotas), other) for other in held], default=None)


def by_shares(board, n, shares):
    """Return the quotas that the shares give for n voters."""
    check_board(board)
    check_voters(n)
    check_shares(board, shares)
    return shared_quotas(n, shares)


def first_failure(board, shares, most):
    """Return the least number of voters for which the quotas of the shares do not hold, with these and the verdict."""
    check_board(board)
    check_shares(board, shares)
    check_voters(most)
    parts = list(clashes(board))
    for n in range(1, most + 1):
        quotas = shared_quotas(n, shares)
        found = found_verdict(board, parts, n, quotas)
        if found is not None:
            return (n, quotas, *found)
    return None


def spare(n, quota, answer):
    """Return n minus the votes that the answer needs, and 0 for no answer."""
    if answer == "1":
        return n - quota
    if answer == "0":
        return quota - 1
    return 0


def summed_strain(n, quotas, clash):
    """Return the strain of the clash."""
    return sum([spare(n, quota, answer) for quota, answer in zip(quotas, clash)])


def first_strained(parts, n, quotas):
    """Return the first of the clashes whose strain is at least n, None if there is none."""
    for clash in parts:
        if summed_strain(n, quotas, clash) >= n:
            return clash
    return None


def found_verdict(board, parts, n, quotas):
    """Return the verdict for a board with these clashes."""
    clash = first_strained(parts, n, quotas)
    if clash is None:
        return None
    return clash, failing_votes(board, n, quotas, clash)


def failing_votes(board, n, quotas, clash):
    """Return feasible votes whose result has the clash, which is one whose strain is at least n."""
    spares = [spare(n, quota, answer) for quota, answer in zip(quotas, clash) if answer != "-"]
    votes = []
    for many, row in zip(spares, witnesses(board, clash)):
        votes.extend([row] * many)
    return tuple(votes[:n])


def check_amount(board, n):
    """Raise LimitError if there are too many quotas for n voters to try."""
    amount = 1
    for k in range(board.issues):
        amount *= n
    if amount > MOST_QUOTAS:
        raise LimitError(amount, MOST_QUOTAS)


def held_range(sums, parts, k, n):
    """Return all quotas of the issue k that leave every strain below n, whatever the later quotas are."""
    # No answer lowers a strain, so a sum that has come to n already excludes all quotas that begin like this.
    low = max([added for added, part in zip(sums, parts) if part[k] == "1"], default=0) + 1
    high = n - max([added for added, part in zip(sums, parts) if part[k] == "0"], default=0)
    return list(range(low, high + 1))


def raised(sums, parts, k, n, quota):
    """Return the sums with what this quota of the issue k adds to each."""
    return [added + spare(n, quota, part[k]) for added, part in zip(sums, parts)]


def distance(quotas, others):
    """Return the sum of the differences between the quotas."""
    return sum([abs(quota - other) for quota, other in zip(quotas, others)])


def check_shares(board, shares):
    """Raise SharesError unless these are shares for the board."""
    if not isinstance(shares, tuple) or len(shares) != board.issues or not all([is_share(pair) for pair in shares]):
        raise SharesError(f"shares are a tuple with a pair (a, b) for each issue, 0 <= a < b <= {MOST_PARTS}")


def is_share(value):
    """Tell whether the value is a pair (a, b) that means more than a of b parts."""
    if not isinstance(value, tuple) or len(value) != 2:
        return False
    return is_integer(value[1], 1, MOST_PARTS) and is_integer(value[0], 0, value[1] - 1)


def shared_quotas(n, shares):
    """Return the quotas of more than a of b parts of n voters, for each pair (a, b) of the shares."""
    return tuple([n * a // b + 1 for a, b in shares])
