"""The values of a constraint while transactions are left out of a ledger and put back."""

from ledgerproof.measures import meets


class Gauge:
    """The values of one constraint, each in a place of its own.

    The shares of a transaction are pairs of a place and of what the transaction adds to the value there. There are at
    most two, so leaving a transaction out takes few steps, however many participants and transactions there are.
    """

    def __init__(self, constraint, amounts, shares):
        self._constraint = constraint
        self._amounts = amounts
        self._shares = shares
        self._wrong = len([amount for amount in amounts.values() if not meets(amount, constraint)])

    def satisfied(self):
        """Whether all values are what the constraint asks for."""
        return self._wrong == 0

    def leave_out(self, number):
        """Takes away what the transaction with this number adds to the values."""
        self._shift(number, -1)

    def put_back(self, number):
        """Adds again what was taken away."""
        self._shift(number, 1)

    def _shift(self, number, sign):
        for place, share in self._shares[number]:
            if not meets(self._amounts[place], self._constraint):
                self._wrong -= 1
            self._amounts[place] += sign * share
            if not meets(self._amounts[place], self._constraint):
                self._wrong += 1
