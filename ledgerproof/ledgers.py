"""Ledgers: their problems and balances, the constraints that they satisfy, the claims that they refute."""

from ledgerproof.errors import NotRefuted
from ledgerproof.gauges import Gauge
from ledgerproof.measures import meets, worth
from ledgerproof.models import kind_named, premises_of
from ledgerproof.sectors import belongs, profile_of


def problem(model, ledger):
    """The first problem of a pair of the form of a ledger, or None."""
    participants, transactions = ledger
    for number, names in enumerate(participants):
        if not is_participant(model, names):
            return ("participant", number)
    held = profiles_in(model, participants)
    for number, transaction in enumerate(transactions):
        reason = transaction_problem(model, held, transaction)
        if reason is not None:
            return ("transaction", number, reason)
    return None


def balances(model, ledger):
    """For each participant the balances of all accounts, in the order of the model."""
    participants, transactions = ledger
    rows = [[0] * len(model[1]) for _ in participants]
    for name, payer, payee, amount in transactions:
        _, _, payer_entries, _, payee_entries = kind_named(model, name)
        _book(model, rows[payer], payer_entries, amount)
        _book(model, rows[payee], payee_entries, amount)
    return tuple([tuple(row) for row in rows])


def value(model, ledger, constraint):
    """The value of a sum; for an each the pairs of a member's number and the value for it."""
    amounts = _amounts(model, ledger, constraint)
    return amounts[None] if constraint[0] == "sum" else tuple(amounts.items())


def satisfies(model, ledger, constraint):
    """Whether the ledger satisfies the constraint."""
    amounts = _amounts(model, ledger, constraint)
    return all([meets(amount, constraint) for amount in amounts.values()])


def refutes(model, ledger, claim):
    """Whether the ledger satisfies all premises of the claim and does not satisfy its conclusion."""
    for premise in premises_of(model, claim):
        if not satisfies(model, ledger, premise):
            return False
    return not satisfies(model, ledger, claim[1])


def minimized(model, ledger, claim):
    """The numbers of the transactions that remain if no single one of them can be left out any more."""
    if not refutes(model, ledger, claim):
        raise NotRefuted()
    premises = [_gauge(model, ledger, premise) for premise in premises_of(model, claim)]
    conclusion = _gauge(model, ledger, claim[1])
    remaining = list(range(len(ledger[1])))
    while True:
        kept = []
        for number in list(remaining):
            if not _left_out(premises, conclusion, number):
                kept.append(number)
        if kept == remaining:
            return tuple(kept)
        remaining = kept


def profiles_in(model, participants):
    """The profile of each participant."""
    return [profile_of(model, names) for names in participants]


def is_participant(model, names):
    """Whether these are different names of sectors of the model."""
    return len(set(names)) == len(names) and all([name in model[0] for name in names])


def transaction_problem(model, held, transaction):
    """Why this is no transaction between participants with the profiles held, or None."""
    name, payer, payee, amount = transaction
    kind = kind_named(model, name)
    if kind is None:
        return "type"
    if not 0 <= payer < len(held):
        return "payer"
    if not 0 <= payee < len(held):
        return "payee"
    if payer == payee:
        return "same"
    if not belongs(model, held[payer], kind[1]):
        return "payer sector"
    if not belongs(model, held[payee], kind[3]):
        return "payee sector"
    return "amount" if amount < 1 else None


def _book(model, row, entries, amount):
    for account, number in entries:
        row[model[1].index(account)] += amount * number


def _amounts(model, ledger, constraint):
    """The values of the constraint: for a sum under None, for an each under the number of each member."""
    amounts = {None: 0} if constraint[0] == "sum" else {}
    rows = balances(model, ledger)
    for number, profile in enumerate(profiles_in(model, ledger[0])):
        share = worth(model, constraint, profile, list(zip(model[1], rows[number])))
        if constraint[0] == "sum":
            amounts[None] += share
        elif belongs(model, profile, constraint[1]):
            amounts[number] = share
    return amounts


def _gauge(model, ledger, constraint):
    amounts = _amounts(model, ledger, constraint)
    held = profiles_in(model, ledger[0])
    shares = [_shares(model, held, constraint, transaction) for transaction in ledger[1]]
    # For an each only members have a value, so what others pay and receive does not count.
    counted = [[share for share in pair if share[0] in amounts] for pair in shares]
    return Gauge(constraint, amounts, counted)


def _shares(model, held, constraint, transaction):
    """What the transaction adds for its payer and for its payee, each with the place of the value in question."""
    name, payer, payee, amount = transaction
    _, _, payer_entries, _, payee_entries = kind_named(model, name)
    shares = []
    for number, entries in ((payer, payer_entries), (payee, payee_entries)):
        place = None if constraint[0] == "sum" else number
        shares.append((place, amount * worth(model, constraint, held[number], entries)))
    return shares


def _left_out(premises, conclusion, number):
    """Leaves this transaction out if the claim is refuted without it, and tells whether it is."""
    gauges = [*premises, conclusion]
    for gauge in gauges:
        gauge.leave_out(number)
    if all([premise.satisfied() for premise in premises]) and not conclusion.satisfied():
        return True
    for gauge in gauges:
        gauge.put_back(number)
    return False
