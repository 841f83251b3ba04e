"""Journals: ledgers that grow."""

from ledgerproof.errors import BadParticipant, BadTransaction, TooMany
from ledgerproof.ledgers import is_participant, minimized, profiles_in, refutes, satisfies, transaction_problem, value
from ledgerproof.models import entry_of, kind_named
from ledgerproof.sectors import names_of, profile_of


class Journal:
    """A model and a ledger of it, to which participants and transactions are added."""

    MOST_PARTICIPANTS = 40
    MOST_TRANSACTIONS = 1000

    def __init__(self, model, *, participants=(), transactions=()):
        self._model = model
        self._participants = ()
        self._transactions = ()
        self.add(participants, transactions)

    @property
    def model(self):
        """The model of the journal."""
        return self._model

    @property
    def ledger(self):
        """The ledger as it is now."""
        return (self._participants, self._transactions)

    def __len__(self):
        return len(self._transactions)

    def __iter__(self):
        return iter(self._transactions)

    def add(self, participants, transactions):
        """Adds all of them, or none, and returns the number of transactions behind that."""
        # Nothing is kept before everything was looked at: an error leaves the journal as it was.
        grown = self._with_participants(participants)
        self._check_transactions(profiles_in(self._model, grown), transactions)
        self._participants = grown
        self._transactions = (*self._transactions, *transactions)
        return len(self._transactions)

    def enter(self, *names):
        """Adds one participant and returns its number."""
        self.add((names,), ())
        return len(self._participants) - 1

    def post(self, name, payer, payee, *, amount=1):
        """Adds one transaction and returns its number."""
        return self.add((), ((name, payer, payee, amount),)) - 1

    def history(self, account):
        """Tells the balances of the account before all transactions and behind each of them."""
        column = [0] * len(self._participants)
        yield tuple(column)
        for name, payer, payee, amount in self._transactions:
            _, _, payer_entries, _, payee_entries = kind_named(self._model, name)
            column[payer] += amount * entry_of(payer_entries, account)
            column[payee] += amount * entry_of(payee_entries, account)
            yield tuple(column)

    def by_type(self):
        """The numbers of the transactions of each type, in the order in which the types occur first."""
        groups = {}
        for number, transaction in enumerate(self._transactions):
            groups.setdefault(transaction[0], []).append(number)
        return tuple([(name, tuple(numbers)) for name, numbers in groups.items()])

    def value(self, constraint):
        """The value of the constraint in the ledger."""
        return value(self._model, self.ledger, constraint)

    def satisfies(self, constraint):
        """Whether the ledger satisfies the constraint."""
        return satisfies(self._model, self.ledger, constraint)

    def refutes(self, claim):
        """Whether the ledger refutes the claim."""
        return refutes(self._model, self.ledger, claim)

    def minimized(self, claim):
        """The numbers of the transactions that remain if the ledger is minimized."""
        return minimized(self._model, self.ledger, claim)

    def clone(self):
        """A new journal with the same model and ledger."""
        return Journal(self._model, participants=self._participants, transactions=self._transactions)

    def _with_participants(self, participants):
        grown = list(self._participants)
        for number, names in enumerate(participants):
            if not is_participant(self._model, names):
                raise BadParticipant(number)
            if len(grown) >= self.MOST_PARTICIPANTS:
                raise TooMany()
            grown.append(names_of(self._model, profile_of(self._model, names)))
        return tuple(grown)

    def _check_transactions(self, held, transactions):
        for number, transaction in enumerate(transactions):
            reason = transaction_problem(self._model, held, transaction)
            if reason is not None:
                raise BadTransaction(number, reason)
            if len(self._transactions) + number >= self.MOST_TRANSACTIONS:
                raise TooMany()
