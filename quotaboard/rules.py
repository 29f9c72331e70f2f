"""Rules: what decides a row when all have voted."""

from quotaboard.ballots import check_ballot, check_voter, check_votes, decided_row
from quotaboard.errors import RowsError
from quotaboard.premises import answers_to, check_premises, premises, settled_row


class Rule:
    """Each issue is decided by its quota."""

    def __init__(self, board, n, quotas):
        check_ballot(board, n, quotas)
        self.board = board
        self.size = n
        self.needed = quotas

    def __call__(self, votes):
        return self.decide(votes)

    def describe(self):
        """Return the names of the class and of those below it."""
        return "Rule"

    def decide(self, votes):
        """Return the row that the votes decide."""
        check_votes(self.board, self.size, votes)
        return decided_row(votes, self.needed)


class Veto(Rule):
    """A rule under which one voter can stop a yes."""

    def __init__(self, board, n, quotas, voter=1):
        super().__init__(board, n, quotas)
        check_voter(n, voter)
        self.stopper = voter

    def __call__(self, votes):
        return self.decide(votes)

    def describe(self):
        """Return the names of the class and of those below it."""
        return "Veto < " + super().describe()

    def decide(self, votes):
        """Return the row with yes only where the voter has yes, too."""
        return common_yes(super().decide(votes), votes[self.stopper - 1])


class Default(Rule):
    """A rule with a feasible row in place of what is not feasible."""

    def __init__(self, board, n, quotas, row=None):
        super().__init__(board, n, quotas)
        self.fallback = feasible_row(board, row)

    def __call__(self, votes):
        return self.decide(votes)

    def describe(self):
        """Return the names of the class and of those below it."""
        return "Default < " + super().describe()

    def decide(self, votes):
        """Return the row that is otherwise decided, if it is feasible."""
        row = super().decide(votes)
        return row if row in self.board else self.fallback


class VetoDefault(Default, Veto):
    """A rule under which first the veto counts, and then the default row."""

    def __init__(self, board, n, quotas, voter=1, row=None):
        super().__init__(board, n, quotas)
        check_voter(n, voter)
        self.stopper = voter
        self.fallback = feasible_row(board, row)

    def __call__(self, votes):
        return self.decide(votes)

    def describe(self):
        """Return the names of the class and of those below it."""
        return "VetoDefault < " + super().describe()


class PremiseRule(Rule):
    """A rule that decides the premises by their quotas and settles the other issues."""

    def __init__(self, board, n, quotas):
        super().__init__(board, n, quotas)
        self.chosen = premises(board)
        check_premises(self.chosen)

    def __call__(self, votes):
        return self.decide(votes)

    def describe(self):
        """Return the names of the class and of those below it."""
        return "PremiseRule < " + super().describe()

    def decide(self, votes):
        """Return the feasible row with the answers that are decided for the premises."""
        return settled_row(self.board, self.chosen, answers_to(super().decide(votes), self.chosen))


def common_yes(row, other):
    """Return the row with yes only where both rows have yes."""
    return "".join(["1" if first == second == "1" else "0" for first, second in zip(row, other)])


def feasible_row(board, row):
    """Return the row, in place of None the first feasible one; RowsError if it is not feasible."""
    if row is None:
        return board.rows[0]
    if row not in board:
        raise RowsError("this is not a feasible row of the board")
    return row
